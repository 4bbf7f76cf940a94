import PyProof.Rows.All
import Wide.All
import OpenK.AllK
import Wide.FinOn
import HandS.ForMost
import HandS.ForExc
import HandS.TupAny
import HandS.IsInst
import HandS.TupMul
import HandS.Style
import KE.DataMinMax
import HandS.ExcIs
import HandS.Deep
import HandS.Rev
import HandS.WideBits
import HandS.Iter
import HandS.Flow
import KE.GoesMore
import HandS.Gcd
import HandS.StrMore
import HandS.Dict
import HandS.Replace
import HandS.Codes
import PyProof.StrBlock2
import HandS.RevRange
import KE.GoesZip
import HandS.Zip
import HandS.Conv
import HandS.DictComp
import KE.KIndexOf
import HandS.FStr
import HandS.More
import HandS.DictTup
import KE.KDictDisplayH
import KE.KEqDict
import KE.DatumOrd
import KE.BitLaws
import HandS.SortInts
import PySem.Challenge.RW_stepdown_k06_blocks_and_rows_of_bits
set_option Elab.async false
set_option linter.all false
set_option maxRecDepth 100000
set_option maxHeartbeats 8000000
/-! DL: readings over plain data. A value is told as data D (tuples by their items), the heap as DH (lists, dicts, instances alone); a piece of syntax as a transformer over them. -/
namespace DL
open PySem PySem.Spec PyProof.Rows L2
/-- otup: a tuple of which it isn't told that it is without an attribute dict (what enumerate and zip yield) -/
inductive D where
  | non | bl (b : Bool) | int (i : Int) | str (x : Str) | tup (xs : List D) | sl (xs : List D) | ref (a : Addr) | otup (xs : List D)
inductive DO where
  | lst (xs : List D)
  | dK (kvs : List (Key × D))
  | dT (kvs : List (List Key × D))
  | lkK (o : Obj) (vs : List (Key × V)) (kvs : List (Key × D))
  | lkT (o : Obj) (vs : List (List Key × V)) (kvs : List (List Key × D))
  | rng (i j : Int)
  | ins (C : Addr) (fs : List (Str × D))
abbrev DH := Addr → Option DO
def dup (h : DH) (a : Addr) (o : DO) : DH := fun b => if b = a then some o else h b
theorem dup_same {h : DH} {a : Addr} {o : DO} : dup h a o a = some o := by unfold dup; rw [if_pos rfl]
theorem dup_ne {h : DH} {a b : Addr} {o : DO} (e : b ≠ a) : dup h a o b = h b := by unfold dup; rw [if_neg e]
theorem dup_dup {h : DH} {a : Addr} {o u : DO} : dup (dup h a o) a u = dup h a u := by
  funext b; unfold dup; split <;> rfl
theorem ne_fresh {h : DH} {a b : Addr} {o : DO} (e : h a = some o) (f : h b = none) : a ≠ b := by
  intro z; subst z; rw [e] at f; cases f
theorem dup_old {h : DH} {a b : Addr} {o u : DO} (e : h b = some u) (f : h a = none) : dup h a o b = some u := by
  rw [dup_ne (ne_fresh e f)]; exact e
/-- less is told -/
def Sub (h h' : DH) : Prop := ∀ a o, h a = some o → h' a = some o
theorem Sub.refl (h : DH) : Sub h h := fun _ _ e => e
theorem Sub.trans {h h1 h2 : DH} (a : Sub h h1) (b : Sub h1 h2) : Sub h h2 := fun c o e => b c o (a c o e)
theorem Sub.new {h : DH} {p : Addr} {o : DO} (f : h p = none) : Sub h (dup h p o) := fun a u e => dup_old e f
theorem Sub.fresh {h h' : DH} (s : Sub h h') {p : Addr} (f : h' p = none) : h p = none := by
  cases e : h p with
  | none => rfl
  | some o => rw [s p o e] at f; cases f
/-- a list that nobody writes: the script, a list of the module -/
def StL (K : PySem.W.Frag) (H : Hp) (a : Addr) (xs : List V) : Prop :=
  (∃ o, H a = some (.frz o (.lst xs))) ∨
    ∃ (o : Obj) (its : Array Value) (n : Nat), K.lookup a = some o ∧ o.cls = .type "list" ∧ o.dict = none ∧ o.data = .seq its n ∧ its.size ≤ sizeLine ∧ Vals xs its.toList
theorem StL.seq {K : PySem.W.Frag} {H : Hp} {a : Addr} {xs : List V} (h : StL K H a xs) : SqL K H a xs := by
  rcases h with h | h
  · exact .inl (.inr h)
  · exact .inr h
/-- a tuple without an attribute dict: made by the program (its object is told), or of the module -/
def PlT (K : PySem.W.Frag) (H : Hp) (a : Addr) (xs : List V) : Prop :=
  (∃ o : Obj, H a = some (.frz o (.tup xs)) ∧ o.dict = none) ∨
    ∃ (o : Obj) (its : Array Value) (n : Nat), K.lookup a = some o ∧ o.cls = .type "tuple" ∧ o.dict = none ∧ o.data = .seq its n ∧ its.size ≤ sizeLine ∧ Vals xs its.toList
theorem PlT.sqT {K : PySem.W.Frag} {H : Hp} {a : Addr} {xs : List V} (h : PlT K H a xs) : SqT K H a xs := by
  rcases h with ⟨o, h, _⟩ | ⟨o, its, n, h1, h2, h3, h4⟩
  · exact .inl (.inr ⟨o, h⟩)
  · exact .inr ⟨o, its, n, h1, h2, h4⟩
/-- a new tuple -/
def NewT (H : Hp) (Q : VK) (xs : List V) : Prop := ∀ (p : Addr) (o : Obj), H p = none → o.dict = none → Q (.ref p) (upd H p (.frz o (.tup xs)))
abbrev tupObj (its : List Value) : Obj := { cls := .type "tuple", data := .seq its.toArray }
theorem _root_.L2.Inv.tnew {X : Cx} {pins : List (Addr × Obj)} {σ : L2.St} {H : Hp} {s : Shared} {xs : List V} {its : List Value} {t' : Nat} {Q : VK} (I : Inv X pins σ H s) (hz : xs.length ≤ sizeLine) (r : Vals xs its) (q : NewT H Q xs) :
    EP X pins σ Q (.ref s.heap.objs.size) { s with heap := s.heap.push (tupObj its), toks := t' } :=
  ⟨.ref s.heap.objs.size, upd H s.heap.objs.size (.frz (tupObj its) (.tup xs)), I.laid (t' := t') (fun b o e => Heap.get?_push_of_some _ e) (Nat.le_refl _) (show ObjOk X.prog X.w _ _ _ (.frz (tupObj its) (.tup xs)) from ⟨Heap.get?_push_size _ rfl, hz, its, r, IsTup.new _ _⟩), rfl, q _ _ (I.hok.fresh (Nat.le_refl _)) rfl⟩
section
variable {X : Cx} {es : List Expr} {t : TA} {pos : Pos}
def tTupF (t : TA) : TE := fun σ H Q => t σ H fun xs H1 => xs.length ≤ sizeLine ∧ NewT H1 Q xs
theorem pe_tupF {x1} (h : PA X es t) : PE X (.Tuple es x1 pos) (tTupF t) := by
  refine ⟨fun pins s σ H Q I hq => ?_⟩
  refine wpAny_Tuple_spliced (thn (h.run pos pins s σ H _ I hq) fun us s1 ⟨xs, H1, I1, r, z, q⟩ => ⟨by rw [← r.length]; exact z, ?_⟩)
  exact I1.tnew (t' := s1.toks) z r q
end
/-- what lasts -/
structure Pe (H H' : Hp) : Prop where
  tup : ∀ a xs, H a = some (.tup xs) → H' a = some (.tup xs)
  frl : ∀ a o xs, H a = some (.frz o (.lst xs)) → H' a = some (.frz o (.lst xs))
  frt : ∀ a o xs, H a = some (.frz o (.tup xs)) → H' a = some (.frz o (.tup xs))
theorem Pe.refl (H : Hp) : Pe H H := ⟨fun _ _ e => e, fun _ _ _ e => e, fun _ _ _ e => e⟩
theorem Pe.trans {H H1 H2 : Hp} (a : Pe H H1) (b : Pe H1 H2) : Pe H H2 :=
  ⟨fun x xs e => b.tup x xs (a.tup x xs e), fun x o xs e => b.frl x o xs (a.frl x o xs e), fun x o xs e => b.frt x o xs (a.frt x o xs e)⟩
theorem Pe.new {H : Hp} {p : Addr} {o : HO} (f : H p = none) : Pe H (upd H p o) :=
  ⟨fun a _ e => by rw [upd_ne (ne_of_none e f)]; exact e, fun a _ _ e => by rw [upd_ne (ne_of_none e f)]; exact e, fun a _ _ e => by rw [upd_ne (ne_of_none e f)]; exact e⟩
/-- what may be written is none of the lasting -/
def Wr : Option HO → Prop
  | some (.lst _) => True
  | some (.dK _) => True
  | some (.dT _) => True
  | some (.ins _ _ _) => True
  | some (.frz _ (.dK _)) => True
  | some (.frz _ (.dT _)) => True
  | some (.rng _ _) => True
  | _ => False
theorem Pe.wr {H : Hp} {p : Addr} {o : HO} (w : Wr (H p)) : Pe H (upd H p o) := by
  have ne : ∀ a u, H a = some u → ¬ Wr (some u) → a ≠ p := fun a u e n z => by subst z; rw [e] at w; exact n w
  exact ⟨fun a _ e => by rw [upd_ne (ne _ _ e fun z => z)]; exact e, fun a _ _ e => by rw [upd_ne (ne _ _ e fun z => z)]; exact e, fun a _ _ e => by rw [upd_ne (ne _ _ e fun z => z)]; exact e⟩
section
variable {K : PySem.W.Frag} {H H' : Hp}
theorem Pe.sqT (p : Pe H H') {a : Addr} {xs : List V} (h : SqT K H a xs) : SqT K H' a xs := by
  rcases h with (h | ⟨o, h⟩) | h
  · exact .inl (.inl (p.tup _ _ h))
  · exact .inl (.inr ⟨o, p.frt _ _ _ h⟩)
  · exact .inr h
theorem Pe.stL (p : Pe H H') {a : Addr} {xs : List V} (h : StL K H a xs) : StL K H' a xs := by
  rcases h with ⟨o, h⟩ | h
  · exact .inl ⟨o, p.frl _ _ _ h⟩
  · exact .inr h
theorem Pe.plT (p : Pe H H') {a : Addr} {xs : List V} (h : PlT K H a xs) : PlT K H' a xs := by
  rcases h with ⟨o, h, hd⟩ | h
  · exact .inl ⟨o, p.frt _ _ _ h, hd⟩
  · exact .inr h
end
mutual
inductive RD (K : PySem.W.Frag) (H : Hp) : D → V → Prop
  | non : RD K H .non .non
  | bl (b : Bool) : RD K H (.bl b) (.bl b)
  | int (i : Int) : RD K H (.int i) (.int i)
  | str (x : Str) : RD K H (.str x) (.str x)
  | tup {a : Addr} {ds : List D} {vs : List V} (t : PlT K H a vs) (r : RDs K H ds vs) : RD K H (.tup ds) (.ref a)
  | otup {a : Addr} {ds : List D} {vs : List V} (t : H a = some (.tup vs)) (r : RDs K H ds vs) : RD K H (.otup ds) (.ref a)
  | sl {a : Addr} {ds : List D} {vs : List V} (t : StL K H a vs) (r : RDs K H ds vs) : RD K H (.sl ds) (.ref a)
  | ref (a : Addr) : RD K H (.ref a) (.ref a)
inductive RDs (K : PySem.W.Frag) (H : Hp) : List D → List V → Prop
  | nil : RDs K H [] []
  | cons {d : D} {v : V} {ds : List D} {vs : List V} (r : RD K H d v) (t : RDs K H ds vs) : RDs K H (d :: ds) (v :: vs)
end
section
variable {K : PySem.W.Frag} {H H' : Hp}
mutual
theorem RD.mono (p : Pe H H') : ∀ {d : D} {v : V}, RD K H d v → RD K H' d v
  | _, _, .non => .non
  | _, _, .bl b => .bl b
  | _, _, .int i => .int i
  | _, _, .str x => .str x
  | _, _, .tup t r => .tup (p.plT t) (RDs.mono p r)
  | _, _, .otup t r => .otup (p.tup _ _ t) (RDs.mono p r)
  | _, _, .sl t r => .sl (p.stL t) (RDs.mono p r)
  | _, _, .ref a => .ref a
theorem RDs.mono (p : Pe H H') : ∀ {ds : List D} {vs : List V}, RDs K H ds vs → RDs K H' ds vs
  | _, _, .nil => .nil
  | _, _, .cons r t => .cons (RD.mono p r) (RDs.mono p t)
end
theorem RDs.length : ∀ {ds : List D} {vs : List V}, RDs K H ds vs → ds.length = vs.length
  | _, _, .nil => rfl
  | _, _, .cons _ t => by rw [List.length_cons, List.length_cons, RDs.length t]
theorem RDs.append : ∀ {ds es : List D} {vs ws : List V}, RDs K H ds vs → RDs K H es ws → RDs K H (ds ++ es) (vs ++ ws)
  | _, _, _, _, .nil, s => s
  | _, _, _, _, .cons r t, s => .cons r (RDs.append t s)
theorem RDs.get : ∀ {ds : List D} {vs : List V} {i : Nat} {d : D}, RDs K H ds vs → ds[i]? = some d → ∃ v, vs[i]? = some v ∧ RD K H d v
  | _, _, _, _, .nil, e => by simp at e
  | _, _, 0, _, .cons r _, e => by simp at e; subst e; exact ⟨_, rfl, r⟩
  | _, _, i + 1, d, .cons _ t, e => by
    obtain ⟨v, h1, h2⟩ := RDs.get (i := i) (d := d) t (by simpa using e)
    exact ⟨v, by simpa using h1, h2⟩
theorem RDs.getV : ∀ {ds : List D} {vs : List V} {i : Nat} {v : V}, RDs K H ds vs → vs[i]? = some v → ∃ d, ds[i]? = some d ∧ RD K H d v
  | _, _, _, _, .nil, e => by simp at e
  | _, _, 0, _, .cons r _, e => by simp at e; subst e; exact ⟨_, rfl, r⟩
  | _, _, i + 1, v, .cons _ t, e => by
    obtain ⟨d, h1, h2⟩ := RDs.getV (i := i) (v := v) t (by simpa using e)
    exact ⟨d, by simpa using h1, h2⟩
theorem RDs.set {d : D} {v : V} (r : RD K H d v) : ∀ {ds : List D} {vs : List V} (i : Nat), RDs K H ds vs → RDs K H (ds.set i d) (vs.set i v)
  | _, _, _, .nil => .nil
  | _, _, 0, .cons _ t => .cons r t
  | _, _, i + 1, .cons q t => .cons q (RDs.set r i t)
theorem RDs.take : ∀ {ds : List D} {vs : List V} (n : Nat), RDs K H ds vs → RDs K H (ds.take n) (vs.take n)
  | _, _, 0, _ => .nil
  | _, _, _ + 1, .nil => .nil
  | _, _, n + 1, .cons r t => .cons r (RDs.take n t)
theorem RDs.drop : ∀ {ds : List D} {vs : List V} (n : Nat), RDs K H ds vs → RDs K H (ds.drop n) (vs.drop n)
  | _, _, 0, r => r
  | _, _, _ + 1, .nil => .nil
  | _, _, n + 1, .cons _ t => RDs.drop n t
theorem RDs.dropLast : ∀ {ds : List D} {vs : List V}, RDs K H ds vs → RDs K H ds.dropLast vs.dropLast
  | _, _, .nil => .nil
  | _, _, .cons _ .nil => .nil
  | _, _, .cons r (.cons q t) => .cons r (RDs.dropLast (.cons q t))
theorem RDs.reverse : ∀ {ds : List D} {vs : List V}, RDs K H ds vs → RDs K H ds.reverse vs.reverse
  | _, _, .nil => .nil
  | _, _, .cons r t => by
    rw [List.reverse_cons, List.reverse_cons]
    exact (RDs.reverse t).append (.cons r .nil)
theorem RDs.ints_inv : ∀ {ns : List Int} {vs : List V}, RDs K H (ns.map D.int) vs → vs = ns.map V.int
  | [], _, .nil => rfl
  | n :: ns, _, .cons r t => by cases r; rw [RDs.ints_inv t, List.map_cons]
theorem RDs.ints : ∀ (ns : List Int), RDs K H (ns.map D.int) (ns.map V.int)
  | [] => .nil
  | n :: ns => .cons (.int n) (RDs.ints ns)
theorem RDs.bls_inv : ∀ {bs : List Bool} {vs : List V}, RDs K H (bs.map D.bl) vs → vs = bs.map V.bl
  | [], _, .nil => rfl
  | n :: ns, _, .cons r t => by cases r; rw [RDs.bls_inv t, List.map_cons]
theorem RDs.strs_inv : ∀ {bs : List Str} {vs : List V}, RDs K H (bs.map D.str) vs → vs = bs.map V.str
  | [], _, .nil => rfl
  | n :: ns, _, .cons r t => by cases r; rw [RDs.strs_inv t, List.map_cons]
def RO (K : PySem.W.Frag) (H : Hp) (a : Addr) : DO → Prop
  | .lst ds => ∃ vs, H a = some (.lst vs) ∧ RDs K H ds vs
  | .dK kvs => ∃ vs : List (Key × V), H a = some (.dK vs) ∧ vs.map (·.1) = kvs.map (·.1) ∧ RDs K H (kvs.map (·.2)) (vs.map (·.2))
  | .dT kvs => ∃ vs : List (List Key × V), H a = some (.dT vs) ∧ vs.map (·.1) = kvs.map (·.1) ∧ RDs K H (kvs.map (·.2)) (vs.map (·.2))
  | .lkK o us kvs => H a = some (.frz o (.dK us)) ∧ us.map (·.1) = kvs.map (·.1) ∧ RDs K H (kvs.map (·.2)) (us.map (·.2))
  | .lkT o us kvs => H a = some (.frz o (.dT us)) ∧ us.map (·.1) = kvs.map (·.1) ∧ RDs K H (kvs.map (·.2)) (us.map (·.2))
  | .rng i j => H a = some (.rng i j)
  | .ins C fs => ∃ (dx : Addr) (vs : List (Str × V)), H a = some (.ins C dx vs) ∧ vs.map (·.1) = fs.map (·.1) ∧ RDs K H (fs.map (·.2)) (vs.map (·.2))
theorem RO.some {a : Addr} {o : DO} (r : RO K H a o) : ∃ u, H a = Option.some u ∧ Wr (Option.some u) := by
  cases o with
  | lst ds => obtain ⟨vs, e, _⟩ := r; exact ⟨_, e, trivial⟩
  | dK kvs => obtain ⟨vs, e, _⟩ := r; exact ⟨_, e, trivial⟩
  | dT kvs => obtain ⟨vs, e, _⟩ := r; exact ⟨_, e, trivial⟩
  | lkK o us kvs => exact ⟨_, r.1, trivial⟩
  | lkT o us kvs => exact ⟨_, r.1, trivial⟩
  | rng i j => exact ⟨_, r, trivial⟩
  | ins C fs => obtain ⟨dx, vs, e, _⟩ := r; exact ⟨_, e, trivial⟩
theorem RO.mono (p : Pe H H') {a : Addr} {o : DO} (e : H' a = H a) (r : RO K H a o) : RO K H' a o := by
  cases o with
  | lst ds => obtain ⟨vs, q, r⟩ := r; exact ⟨vs, e.trans q, r.mono p⟩
  | dK kvs => obtain ⟨vs, q, n, r⟩ := r; exact ⟨vs, e.trans q, n, r.mono p⟩
  | dT kvs => obtain ⟨vs, q, n, r⟩ := r; exact ⟨vs, e.trans q, n, r.mono p⟩
  | lkK o us kvs => exact ⟨e.trans r.1, r.2.1, r.2.2.mono p⟩
  | lkT o us kvs => exact ⟨e.trans r.1, r.2.1, r.2.2.mono p⟩
  | rng i j => exact e.trans r
  | ins C fs => obtain ⟨dx, vs, q, n, r⟩ := r; exact ⟨dx, vs, e.trans q, n, r.mono p⟩
def RW (K : PySem.W.Frag) (h : DH) (H : Hp) : Prop := ∀ a o, h a = Option.some o → RO K H a o
theorem RW.fresh {h : DH} (r : RW K h H) {p : Addr} (f : H p = none) : h p = none := by
  cases e : h p with
  | none => rfl
  | some o =>
    obtain ⟨u, q, _⟩ := (r p o e).some
    rw [f] at q; cases q
theorem RW.sub {h h' : DH} (r : RW K h' H) (s : Sub h h') : RW K h H := fun a o e => r a o (s a o e)
/-- an object beside what is told -/
theorem RW.beside {h : DH} (r : RW K h H) {p : Addr} {u : HO} (f : H p = none) : RW K h (upd H p u) := fun a o e => by
  obtain ⟨u', q, _⟩ := (r a o e).some
  exact (r a o e).mono (Pe.new f) (upd_ne (ne_of_none q f))
theorem RW.new {h : DH} (r : RW K h H) {p : Addr} {u : HO} {o : DO} (f : H p = none) (q : RO K (upd H p u) p o) : RW K (dup h p o) (upd H p u) := fun a o' e => by
  by_cases z : a = p
  · subst z; rw [dup_same] at e; cases e; exact q
  · rw [dup_ne z] at e; exact r.beside f a o' e
theorem RW.set {h : DH} (r : RW K h H) {p : Addr} {u : HO} {o : DO} (w : Wr (H p)) (q : RO K (upd H p u) p o) : RW K (dup h p o) (upd H p u) := fun a o' e => by
  by_cases z : a = p
  · subst z; rw [dup_same] at e; cases e; exact q
  · rw [dup_ne z] at e
    exact (r a o' e).mono (Pe.wr w) (upd_ne z)
end
/-! ### slots -/
abbrev Ev := List (Option D)
def RS (K : PySem.W.Frag) (H : Hp) (env : Ev) (σ : L2.St) : Prop := Paired (fun (d : Option D) (v : Option V) => ∀ x, d = some x → ∃ y, v = some y ∧ RD K H x y) env σ
section
variable {K : PySem.W.Frag} {H H' : Hp} {env : Ev} {σ : L2.St}
theorem RS.mono (p : Pe H H') (r : RS K H env σ) : RS K H' env σ := Paired.mapP r fun a b z x e => by
  obtain ⟨y, e', q⟩ := z x e
  exact ⟨y, e', q.mono p⟩
theorem paired_get {α β : Type} {R : α → β → Prop} : ∀ {l : List α} {m : List β} {i : Nat} {a : α}, Paired R l m → l[i]? = some a → ∃ b, m[i]? = some b ∧ R a b
  | _, _, _, _, .nil, e => by simp at e
  | _, _, 0, _, .cons r _, e => by simp at e; subst e; exact ⟨_, rfl, r⟩
  | _, _, i + 1, a, .cons _ t, e => by
    obtain ⟨v, h1, h2⟩ := paired_get (i := i) (a := a) t (by simpa using e)
    exact ⟨v, by simpa using h1, h2⟩
theorem paired_set {α β : Type} {R : α → β → Prop} {a : α} {b : β} (q : R a b) : ∀ {l : List α} {m : List β} (i : Nat), Paired R l m → Paired R (l.set i a) (m.set i b)
  | _, _, _, .nil => .nil
  | _, _, 0, .cons _ t => .cons q t
  | _, _, i + 1, .cons r t => .cons r (paired_set q i t)
theorem paired_len {α β : Type} {R : α → β → Prop} : ∀ {l : List α} {m : List β}, Paired R l m → l.length = m.length
  | _, _, .nil => rfl
  | _, _, .cons _ t => by rw [List.length_cons, List.length_cons, paired_len t]
theorem RS.get (r : RS K H env σ) {i : Nat} {d : D} (e : env[i]? = some (some d)) : ∃ v, σ[i]? = some (some v) ∧ RD K H d v := by
  obtain ⟨b, e1, q⟩ := paired_get r e
  obtain ⟨v, z, q'⟩ := q d rfl
  subst z
  exact ⟨v, e1, q'⟩
theorem RS.set (r : RS K H env σ) (i : Nat) {d : D} {v : V} (q : RD K H d v) : RS K H (env.set i (some d)) (σ.set i (some v)) :=
  paired_set (R := fun (d : Option D) (v : Option V) => ∀ x, d = some x → ∃ y, v = some y ∧ RD K H x y) (fun x e => by cases e; exact ⟨v, rfl, q⟩) i r
theorem RS.clear (r : RS K H env σ) (i : Nat) : RS K H (env.set i none) (σ.set i none) :=
  paired_set (R := fun (d : Option D) (v : Option V) => ∀ x, d = some x → ∃ y, v = some y ∧ RD K H x y) (fun x e => by cases e) i r
theorem RS.start : ∀ {ds : List D} {vs : List V} (n : Nat), RDs K H ds vs → RS K H (ds.map some ++ List.replicate n none) (vs.map some ++ List.replicate n none)
  | _, _, n, .nil => by
    show RS K H (List.replicate n none) (List.replicate n none)
    induction n with
    | zero => exact .nil
    | succ n ih => exact .cons (fun x e => nomatch e) ih
  | _, _, n, .cons r t => .cons (fun x e => by cases e; exact ⟨_, rfl, r⟩) (RS.start n t)
end
/-! ### exceptions -/
inductive XC where
  | own (C : Addr)
  | fld (C : Addr) (fs : List (Str × D))
def XC.cls : XC → Addr
  | .own C => C
  | .fld C _ => C
def RX (K : PySem.W.Frag) (H : Hp) : XC → Value → Option Addr → Prop
  | .own C, cls, d => cls = .ref C ∧ d = none
  | .fld C fs, cls, d => cls = .ref C ∧ ∃ (a : Addr) (vs : List (Str × V)), d = some a ∧ H a = some (.xd vs) ∧ vs.map (·.1) = fs.map (·.1) ∧ RDs K H (fs.map (·.2)) (vs.map (·.2))
theorem RX.cls {K : PySem.W.Frag} {H : Hp} {x : XC} {c : Value} {d : Option Addr} (r : RX K H x c d) : c = .ref x.cls := by
  cases x with
  | own C => exact r.1
  | fld C fs => exact r.1
/-! ### the judgements -/
abbrev QD := D → DH → Prop
abbrev QX := XC → DH → Prop
abbrev WE := Ev → DH → QD → QX → Prop
abbrev WT := Ev → DH → (Bool → DH → Prop) → QX → Prop
abbrev WA := Ev → DH → (List D → DH → Prop) → QX → Prop
structure En where
  nx : Ev → DH → Prop
  rt : D → DH → Prop
  bk : Ev → DH → Prop
  ct : Ev → DH → Prop
  rx : XC → Ev → DH → Prop
abbrev WS := En → Ev → DH → Prop
def KQ (K : PySem.W.Frag) (H : Hp) (Qn : QD) (Q : VK) : Prop := ∀ d h' v H', Pe H H' → RW K h' H' → RD K H' d v → Qn d h' → Q v H'
def KX (K : PySem.W.Frag) (H : Hp) (Qx : QX) (W : WX) (σ : L2.St) : Prop := ∀ x h' c d H', Pe H H' → RW K h' H' → RX K H' x c d → Qx x h' → W c d σ H'
theorem KQ.mono {K : PySem.W.Frag} {H H1 : Hp} {Qn : QD} {Q : VK} (k : KQ K H Qn Q) (p : Pe H H1) : KQ K H1 Qn Q := fun d h' v H' q r s t => k d h' v H' (p.trans q) r s t
theorem KX.mono {K : PySem.W.Frag} {H H1 : Hp} {Qx : QX} {W : WX} {σ : L2.St} (k : KX K H Qx W σ) (p : Pe H H1) : KX K H1 Qx W σ := fun x h' c d H' q r s t => k x h' c d H' (p.trans q) r s t
structure KS (K : PySem.W.Frag) (H : Hp) (E : En) (D : Ends) (W : WX) : Prop where
  nx : ∀ e h s H', Pe H H' → RS K H' e s → RW K h H' → E.nx e h → D.nx s H'
  rt : KQ K H E.rt D.rt
  bk : ∀ e h s H', Pe H H' → RS K H' e s → RW K h H' → E.bk e h → D.bk s H'
  ct : ∀ e h s H', Pe H H' → RS K H' e s → RW K h H' → E.ct e h → D.ct s H'
  rx : ∀ x e h s c d H', Pe H H' → RS K H' e s → RW K h H' → RX K H' x c d → E.rx x e h → W c d s H'
theorem KS.mono {K : PySem.W.Frag} {H H1 : Hp} {E : En} {D : Ends} {W : WX} (k : KS K H E D W) (p : Pe H H1) : KS K H1 E D W :=
  ⟨fun e h s H' q => k.nx e h s H' (p.trans q), k.rt.mono p, fun e h s H' q => k.bk e h s H' (p.trans q), fun e h s H' q => k.ct e h s H' (p.trans q), fun x e h s c d H' q => k.rx x e h s c d H' (p.trans q)⟩
def tE (K : PySem.W.Frag) (W : WX) (w : WE) : TE := fun σ H Q => ∃ env h Qn Qx, RS K H env σ ∧ RW K h H ∧ w env h Qn Qx ∧ KQ K H Qn Q ∧ KX K H Qx W σ
def tT (K : PySem.W.Frag) (W : WX) (w : WT) : TT := fun σ H Q => ∃ (env : Ev) (h : DH) (Qn : Bool → DH → Prop) (Qx : QX), RS K H env σ ∧ RW K h H ∧ w env h Qn Qx ∧ (∀ b h' H', Pe H H' → RW K h' H' → Qn b h' → Q b H') ∧ KX K H Qx W σ
def tA (K : PySem.W.Frag) (W : WX) (w : WA) : TA := fun σ H Q => ∃ (env : Ev) (h : DH) (Qn : List D → DH → Prop) (Qx : QX), RS K H env σ ∧ RW K h H ∧ w env h Qn Qx ∧ (∀ ds h' vs H', Pe H H' → RW K h' H' → RDs K H' ds vs → Qn ds h' → Q vs H') ∧ KX K H Qx W σ
def tS (K : PySem.W.Frag) (W : WX) (w : WS) : TS := fun D σ H => ∃ E env h, RS K H env σ ∧ RW K h H ∧ w E env h ∧ KS K H E D W
/-- a context, and what is wished of exceptions in it -/
structure Cok (X : Cx) (W : WX) : Prop where
  tk : Takes X W
  po : PassesOwn (model X.prog X.w) X.A X.env X.xe
structure DE (X : Cx) (e : Expr) (w : WE) : Prop where
  ok : ∀ W, Cok X W → PE X e (tE X.K W w)
structure DT (X : Cx) (e : Expr) (w : WT) : Prop where
  ok : ∀ W, Cok X W → PT X e (tT X.K W w)
structure DW (X : Cx) (e : Expr) (w : WT) : Prop where
  ok : ∀ W, Cok X W → PW X e (tT X.K W w)
structure DA (X : Cx) (es : List Expr) (w : WA) : Prop where
  ok : ∀ W, Cok X W → PA X es (tA X.K W w)
structure DS (X : Cx) (st : Stmt) (w : WS) : Prop where
  ok : ∀ W, Cok X W → PS X st (tS X.K W w)
structure DSs (X : Cx) (st : List Stmt) (w : WS) : Prop where
  ok : ∀ W, Cok X W → PSs X st (tS X.K W w)
theorem _root_.L2.PE.imp {X : Cx} {e : Expr} {t t' : TE} (p : PE X e t) (h : ∀ σ H Q, t' σ H Q → t σ H Q) : PE X e t' := ⟨fun pins s σ H Q I q => p.run pins s σ H Q I (h σ H Q q)⟩
theorem _root_.L2.PT.imp {X : Cx} {e : Expr} {t t' : TT} (p : PT X e t) (h : ∀ σ H Q, t' σ H Q → t σ H Q) : PT X e t' := ⟨fun pins s σ H Q I q => p.run pins s σ H Q I (h σ H Q q)⟩
theorem _root_.L2.PW.imp {X : Cx} {e : Expr} {t t' : TT} (p : PW X e t) (h : ∀ σ H Q, t' σ H Q → t σ H Q) : PW X e t' := ⟨fun wh pins s σ H Q I q => p.run wh pins s σ H Q I (h σ H Q q)⟩
theorem _root_.L2.PA.imp {X : Cx} {e : List Expr} {t t' : TA} (p : PA X e t) (h : ∀ σ H Q, t' σ H Q → t σ H Q) : PA X e t' := ⟨fun pos pins s σ H Q I q => p.run pos pins s σ H Q I (h σ H Q q)⟩
theorem _root_.L2.PS.imp {X : Cx} {e : Stmt} {t t' : TS} (p : PS X e t) (h : ∀ D σ H, t' D σ H → t D σ H) : PS X e t' := ⟨fun pins s σ H D I q => p.run pins s σ H D I (h D σ H q)⟩
theorem _root_.L2.PSs.imp {X : Cx} {e : List Stmt} {t t' : TS} (p : PSs X e t) (h : ∀ D σ H, t' D σ H → t D σ H) : PSs X e t' := ⟨fun pins s σ H D I q => p.run pins s σ H D I (h D σ H q)⟩
section
variable {X : Cx} {a b c e : Expr} {es : List Expr} {pos : Pos} {wa wb wc : WE} {ws : WA}
/-! ### constants and names -/
def wC (d : D) : WE := fun _ h Q _ => Q d h
def wVar (i : Nat) : WE := fun env h Q _ => match env[i]? with
  | some (some d) => Q d h
  | _ => False
theorem de_var {i : Nat} {e : Expr} (p : PE X e (tVar i)) : DE X e (wVar i) := ⟨fun W ck => p.imp fun σ H Q ⟨env, h, Qn, Qx, rs, rw_, q, kq, kx⟩ => by
  unfold wVar at q
  split at q
  · rename_i d e
    obtain ⟨v, e1, r⟩ := rs.get e
    exact ⟨v, e1, kq d h v H (.refl H) rw_ r q⟩
  · exact q.elim⟩
theorem dv (i : Nat) {x : Str} {pos : Pos} (hN : X.N[i]? = some x := by rfl) (hv : Vis X.env.scope x := by first | exact Or.inl rfl | exact Or.inr (Or.inl rfl) | exact Or.inr (Or.inr rfl)) (hd : (x == ("__debug__" : Str)) = false := by decide)
    (hcd : (x == ("__classdict__" : Str)) = false := by decide) : DE X (.Name x pos) (wVar i) := de_var (pe_var hN hv hd hcd)
theorem de_const {e : Expr} {d : D} {v : V} (p : PE X e (tC v)) (r : ∀ H, RD X.K H d v) : DE X e (wC d) := ⟨fun W ck => p.imp fun σ H Q ⟨env, h, Qn, Qx, rs, rw_, q, kq, kx⟩ => kq d h v H (.refl H) rw_ (r H) q⟩
theorem de_int {i : Int} {j : Nat} {pos : Pos} : DE X (.Constant (.int i) j pos) (wC (.int i)) := de_const pe_int fun _ => .int i
theorem de_bl {i : Bool} {j : Nat} {pos : Pos} : DE X (.Constant (.bool i) j pos) (wC (.bl i)) := de_const pe_bl fun _ => .bl i
theorem de_non {j : Nat} {pos : Pos} : DE X (.Constant .none j pos) (wC .non) := de_const pe_non fun _ => .non
theorem de_str {x : Str} {j : Nat} {pos : Pos} : DE X (.Constant (.str x) j pos) (wC (.str x)) := de_const pe_str fun _ => .str x
/-! ### argument lists, displays -/
def wNil : WA := fun _ h Q _ => Q [] h
def wCons (wa : WE) (ws : WA) : WA := fun env h Q Qx => wa env h (fun d h1 => ws env h1 (fun ds h2 => Q (d :: ds) h2) Qx) Qx
theorem da_nil : DA X [] wNil := ⟨fun W ck => pa_nil.imp fun σ H Q ⟨env, h, Qn, Qx, rs, rw_, q, kq, kx⟩ => kq [] h [] H (.refl H) rw_ .nil q⟩
theorem da_cons (ha : DE X e wa) (hs : DA X es ws) (hst : starEach (e :: es) X.env = (false, eval e X.env) :: starEach es X.env := by rfl) : DA X (e :: es) (wCons wa ws) :=
  ⟨fun W ck => (pa_cons (ha.ok W ck) (hs.ok W ck) hst).imp fun σ H Q ⟨env, h, Qn, Qx, rs, rw_, q, kq, kx⟩ =>
    ⟨env, h, _, Qx, rs, rw_, q, fun d h1 v H1 p1 r1 rd q1 => ⟨env, h1, _, Qx, rs.mono p1, r1, q1, fun ds h2 vs H2 p2 r2 rds q2 => kq (d :: ds) h2 (v :: vs) H2 (p1.trans p2) r2 (.cons (rd.mono p2) rds) q2, kx.mono p1⟩, kx⟩⟩
theorem newT_ok {K : PySem.W.Frag} {H H1 : Hp} {h1 : DH} {ds : List D} {vs : List V} {Qn : QD} {Q : VK} (p1 : Pe H H1) (r1 : RW K h1 H1) (rds : RDs K H1 ds vs) (q1 : Qn (.tup ds) h1) (kq : KQ K H Qn Q) : NewT H1 Q vs := fun p o hp hd =>
  kq (.tup ds) h1 (.ref p) _ (p1.trans (Pe.new hp)) (r1.beside hp) (.tup (.inl ⟨o, upd_same, hd⟩) (rds.mono (Pe.new hp))) q1
def wTup (ws : WA) : WE := fun env h Q Qx => ws env h (fun ds h1 => ds.length ≤ sizeLine ∧ Q (.tup ds) h1) Qx
theorem de_tup {k : Nat} (hs : DA X es ws) : DE X (.Tuple es k pos) (wTup ws) :=
  ⟨fun W ck => (pe_tupF (hs.ok W ck)).imp fun σ H Q ⟨env, h, Qn, Qx, rs, rw_, q, kq, kx⟩ =>
    ⟨env, h, _, Qx, rs, rw_, q, fun ds h1 vs H1 p1 r1 rds ⟨hl, q1⟩ => ⟨by rw [← rds.length]; exact hl, newT_ok p1 r1 rds q1 kq⟩, kx⟩⟩
/-- a new list -/
def NewL (h : DH) (ds : List D) (Q : QD) : Prop := ∀ p, h p = none → Q (.ref p) (dup h p (.lst ds))
theorem newL_ok {K : PySem.W.Frag} {H H1 : Hp} {h1 : DH} {ds : List D} {vs : List V} {Qn : QD} {Q : VK} {p : Addr} (p1 : Pe H H1) (r1 : RW K h1 H1) (rds : RDs K H1 ds vs) (q1 : NewL h1 ds Qn) (kq : KQ K H Qn Q) (hp : H1 p = none) : Q (.ref p) (upd H1 p (.lst vs)) :=
  kq (.ref p) _ (.ref p) _ (p1.trans (Pe.new hp)) (r1.new hp (show RO K _ p (.lst ds) from ⟨vs, upd_same, rds.mono (Pe.new hp)⟩)) (.ref p) (q1 p (r1.fresh hp))
def wLst (ws : WA) : WE := fun env h Q Qx => ws env h (fun ds h1 => ds.length ≤ sizeLine ∧ NewL h1 ds Q) Qx
theorem de_lst (hs : DA X es ws) : DE X (.List es pos) (wLst ws) :=
  ⟨fun W ck => (pe_lst (hs.ok W ck)).imp fun σ H Q ⟨env, h, Qn, Qx, rs, rw_, q, kq, kx⟩ =>
    ⟨env, h, _, Qx, rs, rw_, q, fun ds h1 vs H1 p1 r1 rds ⟨hl, q1⟩ => ⟨by rw [← rds.length]; exact hl, fun p hp => newL_ok p1 r1 rds q1 kq hp⟩, kx⟩⟩
/-! ### two-place operations by values -/
abbrev G2 := D → D → DH → QD → Prop
/-- g is carried by r -/
def Sim2 (K : PySem.W.Frag) (g : G2) (r : R2) : Prop := ∀ x y h Qn H vx vy Q, RD K H x vx → RD K H y vy → RW K h H → g x y h Qn → KQ K H Qn Q → r vx vy H Q
structure Op2 (X : Cx) (f : Value → Value → Sem Value) (g : G2) : Prop where
  ex : ∃ r, OpR X f r ∧ Sim2 X.K g r
def wOp2 (g : G2) (wa wb : WE) : WE := fun env h Q Qx => wa env h (fun x h1 => wb env h1 (fun y h2 => g x y h2 Q) Qx) Qx
/-- the common turn: two expressions, then a step -/
theorem two_ok {K : PySem.W.Frag} {W : WX} {σ : L2.St} {H : Hp} {Q : VK} {g : G2} {r : R2} (s : Sim2 K g r) (h : tE K W (wOp2 g wa wb) σ H Q) : tOp r (tE K W wa) (tE K W wb) σ H Q := by
  obtain ⟨env, h, Qn, Qx, rs, rw_, q, kq, kx⟩ := h
  exact ⟨env, h, _, Qx, rs, rw_, q, fun x h1 vx H1 p1 r1 rx q1 => ⟨env, h1, _, Qx, rs.mono p1, r1, q1, fun y h2 vy H2 p2 r2 ry q2 => s x y h2 Qn H2 vx vy Q (rx.mono p2) ry r2 q2 (kq.mono (p1.trans p2)), kx.mono p1⟩, kx⟩
theorem de_bin {op : Operator} {g : G2} (o : Op2 X (binaryOp op) g) (ha : DE X a wa) (hb : DE X b wb) : DE X (.BinOp a op b pos) (wOp2 g wa wb) := by
  obtain ⟨r, ho, s⟩ := o.ex
  exact ⟨fun W ck => (pe_op ho (ha.ok W ck) (hb.ok W ck)).imp fun σ H Q h => two_ok s h⟩
theorem de_cmp {op : CmpOp} {g : G2} (o : Op2 X (compareOp op) g) (ha : DE X a wa) (hb : DE X b wb) (hm : behindInMarks op b = false := by first | exact nobehind _ (by decide) (by decide) | rfl) : DE X (.Compare a [op] [b] pos) (wOp2 g wa wb) := by
  obtain ⟨r, ho, s⟩ := o.ex
  exact ⟨fun W ck => (pe_cmpR ho (ha.ok W ck) (hb.ok W ck) hm).imp fun σ H Q h => two_ok s h⟩
theorem de_ix {g : G2} (o : ∃ r, IxR X r ∧ Sim2 X.K g r) (ha : DE X a wa) (hb : DE X b wb) (hs : PlainIx b := by exact fun _ _ => rfl) : DE X (.Subscript a b pos) (wOp2 g wa wb) := by
  obtain ⟨r, ho, s⟩ := o
  exact ⟨fun W ck => (pe_ix ho (ha.ok W ck) (hb.ok W ck) hs).imp fun σ H Q h => two_ok s h⟩
/-- a test from an expression whose value is a truth value -/
def wB (w : WE) : WT := fun env h Q Qx => w env h (fun d h1 => match d with
  | .bl b => Q b h1
  | _ => False) Qx
theorem isB {d : D} {h : DH} {Q : Bool → DH → Prop} (q : (match d with | .bl b => Q b h | _ => False)) : ∃ b, d = .bl b ∧ Q b h := by
  cases d <;> first | exact q.elim | exact ⟨_, rfl, q⟩
theorem RD.bl_inv {K : PySem.W.Frag} {H : Hp} {b : Bool} {v : V} (r : RD K H (.bl b) v) : v = .bl b := by cases r; rfl
theorem dt_cmp {op : CmpOp} {g : G2} (o : Op2 X (compareOp op) g) (ha : DE X a wa) (hb : DE X b wb) (hm : behindInMarks op b = false := by first | exact nobehind _ (by decide) (by decide) | rfl) : DT X (.Compare a [op] [b] pos) (wB (wOp2 g wa wb)) := by
  obtain ⟨r, ho, s⟩ := o.ex
  refine ⟨fun W ck => (pt_cmpR ho (ha.ok W ck) (hb.ok W ck) hm).imp fun σ H Q ⟨env, h, Qn, Qx, rs, rw_, q, kq, kx⟩ => ?_⟩
  refine two_ok s ⟨env, h, _, Qx, rs, rw_, q, fun d h' v H' p r rd q' => ?_, kx⟩
  obtain ⟨k, rfl, q'⟩ := isB q'
  exact ⟨k, rd.bl_inv, kq k h' H' p r q'⟩
theorem dt_val (ha : DE X a wa) (he : ∀ whole, isTrue a X.env whole = (do let v ← whole; standAt a.pos; holding [v] (truthy v)) := by intro _; rfl) : DT X a (wB wa) := by
  refine ⟨fun W ck => (pt_val (ha.ok W ck) he).imp fun σ H Q ⟨env, h, Qn, Qx, rs, rw_, q, kq, kx⟩ => ?_⟩
  refine ⟨env, h, _, Qx, rs, rw_, q, fun d h' v H' p r rd q' => ?_, kx⟩
  obtain ⟨k, rfl, q'⟩ := isB q'
  exact ⟨k, rd.bl_inv, kq k h' H' p r q'⟩
/-- truth of any value -/
def Tru (d : D) (h : DH) (Q : Bool → DH → Prop) : Prop := match d with
  | .non => Q false h
  | .bl b => Q b h
  | .int i => Q (i != 0) h
  | .str y => y.length ≤ sizeLine ∧ Q ((y.length : Int) != 0) h
  | .tup xs => Q (!xs.isEmpty) h
  | .sl xs => Q (!xs.isEmpty) h
  | .otup _ => False
  | .ref a => match h a with
    | some (.lst xs) => Q (!xs.isEmpty) h
    | _ => False
def wTru (w : WE) : WT := fun env h Q Qx => w env h (fun d h1 => Tru d h1 Q) Qx
theorem RDs.empty {K : PySem.W.Frag} {H : Hp} {ds : List D} {vs : List V} (r : RDs K H ds vs) : ds.isEmpty = vs.isEmpty := by cases r <;> rfl
theorem dt_truth (ha : DE X a wa) (he : ∀ whole, isTrue a X.env whole = (do let v ← whole; standAt a.pos; holding [v] (truthy v)) := by intro _; rfl) : DT X a (wTru wa) := by
  refine ⟨fun W ck => (pt_truth (ha.ok W ck) he).imp fun σ H Q ⟨env, h, Qn, Qx, rs, rw_, q, kq, kx⟩ => ?_⟩
  refine ⟨env, h, _, Qx, rs, rw_, q, fun d h' v H' p r rd q' => ?_, kx⟩
  cases d with
  | non => cases rd; exact ⟨false, rfl, kq _ _ _ p r q'⟩
  | bl b => cases rd; exact ⟨b, rfl, kq _ _ _ p r q'⟩
  | int i => cases rd; exact ⟨_, rfl, kq _ _ _ p r q'⟩
  | str y => cases rd; exact ⟨_, ⟨q'.1, rfl⟩, kq _ _ _ p r q'.2⟩
  | tup xs =>
    cases rd with
    | tup t rr => exact ⟨_, .inr (.inl ⟨_, t.sqT, rfl⟩), kq _ _ _ p r (by rw [← rr.empty]; exact q')⟩
  | otup xs => exact q'.elim
  | sl xs =>
    cases rd with
    | sl t rr => exact ⟨_, .inl ⟨_, t.seq, rfl⟩, kq _ _ _ p r (by rw [← rr.empty]; exact q')⟩
  | ref b =>
    cases rd
    unfold Tru at q'
    dsimp only at q'
    split at q'
    · rename_i xs e
      obtain ⟨vs, hv, rr⟩ := r _ _ e
      exact ⟨_, .inl ⟨_, SqL.of hv, rfl⟩, kq _ _ _ p r (by rw [← rr.empty]; exact q')⟩
    · exact q'.elim
/-! ### and, or, not; a if t else b -/
def wAnd (wa wb : WT) : WT := fun env h Q Qx => wa env h (fun c h1 => if c = true then wb env h1 Q Qx else Q false h1) Qx
def wOr (wa wb : WT) : WT := fun env h Q Qx => wa env h (fun c h1 => if c = true then Q true h1 else wb env h1 Q Qx) Qx
def wNot (wa : WT) : WT := fun env h Q Qx => wa env h (fun c h1 => Q (!c) h1) Qx
variable {ta tb : WT} {rest : List Expr}
theorem dw_and1 (ha : DT X a ta) : DW X (.BoolOp .And [a] pos) ta := ⟨fun W ck => pw_and1 (ha.ok W ck)⟩
theorem dw_or1 (ha : DT X a ta) : DW X (.BoolOp .Or [a] pos) ta := ⟨fun W ck => pw_or1 (ha.ok W ck)⟩
theorem dw_and (ha : DT X a ta) (hb : DW X (.BoolOp .And (b :: rest) pos) tb) : DW X (.BoolOp .And (a :: b :: rest) pos) (wAnd ta tb) :=
  ⟨fun W ck => (pw_and (ha.ok W ck) (hb.ok W ck)).imp fun σ H Q ⟨env, h, Qn, Qx, rs, rw_, q, kq, kx⟩ => ⟨env, h, _, Qx, rs, rw_, q, fun c h1 H1 p1 r1 q1 => by
    cases c with
    | true =>
      rw [if_pos rfl] at q1 ⊢
      exact ⟨env, h1, Qn, Qx, rs.mono p1, r1, q1, fun b h' H' p r q => kq b h' H' (p1.trans p) r q, kx.mono p1⟩
    | false =>
      rw [if_neg Bool.false_ne_true] at q1 ⊢
      exact kq _ _ _ p1 r1 q1, kx⟩⟩
theorem dw_or (ha : DT X a ta) (hb : DW X (.BoolOp .Or (b :: rest) pos) tb) : DW X (.BoolOp .Or (a :: b :: rest) pos) (wOr ta tb) :=
  ⟨fun W ck => (pw_or (ha.ok W ck) (hb.ok W ck)).imp fun σ H Q ⟨env, h, Qn, Qx, rs, rw_, q, kq, kx⟩ => ⟨env, h, _, Qx, rs, rw_, q, fun c h1 H1 p1 r1 q1 => by
    cases c with
    | false =>
      rw [if_neg Bool.false_ne_true] at q1 ⊢
      exact ⟨env, h1, Qn, Qx, rs.mono p1, r1, q1, fun b h' H' p r q => kq b h' H' (p1.trans p) r q, kx.mono p1⟩
    | true =>
      rw [if_pos rfl] at q1 ⊢
      exact kq _ _ _ p1 r1 q1, kx⟩⟩
theorem dt_w (h : DW X a ta) : DT X a ta := ⟨fun W ck => (h.ok W ck).pt⟩
theorem dt_not (ha : DT X a ta) : DT X (.UnaryOp .Not a pos) (wNot ta) :=
  ⟨fun W ck => (pt_not (ha.ok W ck)).imp fun σ H Q ⟨env, h, Qn, Qx, rs, rw_, q, kq, kx⟩ => ⟨env, h, _, Qx, rs, rw_, q, fun c h1 H1 p1 r1 q1 => kq _ _ _ p1 r1 q1, kx⟩⟩
/-- as values, of truth values -/
def wAndV (wa wb : WE) : WE := fun env h Q Qx => wa env h (fun d h1 => match d with
  | .bl c => if c = true then wb env h1 Q Qx else Q (.bl false) h1
  | _ => False) Qx
def wOrV (wa wb : WE) : WE := fun env h Q Qx => wa env h (fun d h1 => match d with
  | .bl c => if c = true then Q (.bl true) h1 else wb env h1 Q Qx
  | _ => False) Qx
def wNotV (wa : WE) : WE := fun env h Q Qx => wa env h (fun d h1 => match d with
  | .bl c => Q (.bl (!c)) h1
  | _ => False) Qx
theorem isB2 {d : D} {P : Bool → Prop} (q : (match d with | .bl b => P b | _ => False)) : ∃ b, d = .bl b ∧ P b := by
  cases d <;> first | exact q.elim | exact ⟨_, rfl, q⟩
theorem de_one {op : BoolOp} (ha : DE X a wa) : DE X (.BoolOp op [a] pos) wa := ⟨fun W ck => pe_one (ha.ok W ck)⟩
theorem de_and (ha : DE X a wa) (hb : DE X (.BoolOp .And (b :: rest) pos) wb) : DE X (.BoolOp .And (a :: b :: rest) pos) (wAndV wa wb) :=
  ⟨fun W ck => (pe_and (ha.ok W ck) (hb.ok W ck)).imp fun σ H Q ⟨env, h, Qn, Qx, rs, rw_, q, kq, kx⟩ => ⟨env, h, _, Qx, rs, rw_, q, fun d h1 v H1 p1 r1 rd q1 => by
    obtain ⟨c, ed, q2⟩ := isB2 (P := fun c => _) q1; subst ed; clear q1
    refine ⟨c, rd.bl_inv, ?_⟩
    cases c with
    | true =>
      rw [if_pos rfl] at q2 ⊢
      exact ⟨env, h1, Qn, Qx, rs.mono p1, r1, q2, kq.mono p1, kx.mono p1⟩
    | false =>
      rw [if_neg Bool.false_ne_true] at q2 ⊢
      exact kq _ _ _ _ p1 r1 (.bl _) q2, kx⟩⟩
theorem de_or (ha : DE X a wa) (hb : DE X (.BoolOp .Or (b :: rest) pos) wb) : DE X (.BoolOp .Or (a :: b :: rest) pos) (wOrV wa wb) :=
  ⟨fun W ck => (pe_or (ha.ok W ck) (hb.ok W ck)).imp fun σ H Q ⟨env, h, Qn, Qx, rs, rw_, q, kq, kx⟩ => ⟨env, h, _, Qx, rs, rw_, q, fun d h1 v H1 p1 r1 rd q1 => by
    obtain ⟨c, ed, q2⟩ := isB2 (P := fun c => _) q1; subst ed; clear q1
    refine ⟨c, rd.bl_inv, ?_⟩
    cases c with
    | false =>
      rw [if_neg Bool.false_ne_true] at q2 ⊢
      exact ⟨env, h1, Qn, Qx, rs.mono p1, r1, q2, kq.mono p1, kx.mono p1⟩
    | true =>
      rw [if_pos rfl] at q2 ⊢
      exact kq _ _ _ _ p1 r1 (.bl _) q2, kx⟩⟩
theorem de_not (ha : DE X a wa) : DE X (.UnaryOp .Not a pos) (wNotV wa) :=
  ⟨fun W ck => (pe_not (ha.ok W ck)).imp fun σ H Q ⟨env, h, Qn, Qx, rs, rw_, q, kq, kx⟩ => ⟨env, h, _, Qx, rs, rw_, q, fun d h1 v H1 p1 r1 rd q1 => by
    obtain ⟨c, ed, q2⟩ := isB2 (P := fun c => _) q1; subst ed; clear q1
    exact ⟨c, rd.bl_inv, kq _ _ _ _ p1 r1 (.bl _) q2⟩, kx⟩⟩
def wIf (tc : WT) (wa wb : WE) : WE := fun env h Q Qx => tc env h (fun c h1 => if c = true then wa env h1 Q Qx else wb env h1 Q Qx) Qx
theorem de_if (hc : DT X c ta) (ha : DE X a wa) (hb : DE X b wb) : DE X (.IfExp c a b pos) (wIf ta wa wb) :=
  ⟨fun W ck => (pe_ifExp (hc.ok W ck) (ha.ok W ck) (hb.ok W ck)).imp fun σ H Q ⟨env, h, Qn, Qx, rs, rw_, q, kq, kx⟩ => ⟨env, h, _, Qx, rs, rw_, q, fun c h1 H1 p1 r1 q1 => by
    cases c with
    | true =>
      rw [if_pos rfl] at q1 ⊢
      exact ⟨env, h1, Qn, Qx, rs.mono p1, r1, q1, kq.mono p1, kx.mono p1⟩
    | false =>
      rw [if_neg Bool.false_ne_true] at q1 ⊢
      exact ⟨env, h1, Qn, Qx, rs.mono p1, r1, q1, kq.mono p1, kx.mono p1⟩, kx⟩⟩
end
end DL
namespace DL
open PySem PySem.Spec PyProof.Rows L2
/-! ### operations -/
section
variable {X : Cx} {K : PySem.W.Frag} {H : Hp}
theorem RD.int_inv {i : Int} {v : V} (r : RD K H (.int i) v) : v = .int i := by cases r; rfl
theorem RD.str_inv {i : Str} {v : V} (r : RD K H (.str i) v) : v = .str i := by cases r; rfl
theorem RD.non_inv {v : V} (r : RD K H .non v) : v = .non := by cases r; rfl
theorem RD.ref_inv {a : Addr} {v : V} (r : RD K H (.ref a) v) : v = .ref a := by cases r; rfl
theorem RD.tup_inv {ds : List D} {v : V} (r : RD K H (.tup ds) v) : ∃ a vs, v = .ref a ∧ PlT K H a vs ∧ RDs K H ds vs := by
  cases r with
  | tup t r => exact ⟨_, _, rfl, t, r⟩
theorem RD.sl_inv {ds : List D} {v : V} (r : RD K H (.sl ds) v) : ∃ a vs, v = .ref a ∧ StL K H a vs ∧ RDs K H ds vs := by
  cases r with
  | sl t r => exact ⟨_, _, rfl, t, r⟩
theorem KQ.here {Qn : QD} {Q : VK} (k : KQ K H Qn Q) {d : D} {h : DH} {v : V} (r : RW K h H) (rd : RD K H d v) (q : Qn d h) : Q v H := k d h v H (.refl H) r rd q
/-- ints under C -/
def gI (C : Int → Int → Prop) (g : Int → Int → D) : G2 := fun x y h Q => match x, y with
  | .int i, .int j => C i j ∧ Q (g i j) h
  | _, _ => False
def gI0 (g : Int → Int → D) : G2 := fun x y h Q => match x, y with
  | .int i, .int j => Q (g i j) h
  | _, _ => False
theorem sim_I {C : Int → Int → Prop} {g : Int → Int → D} {g' : Int → Int → V} (hg : ∀ i j H, RD K H (g i j) (g' i j)) : Sim2 K (gI C g) (rI C g') := by
  intro x y h Qn H vx vy Q rx ry rw_ q kq
  cases x <;> try exact q.elim
  cases y <;> try exact q.elim
  cases rx; cases ry
  exact ⟨_, _, rfl, rfl, q.1, kq.here rw_ (hg _ _ _) q.2⟩
theorem sim_I0 {g : Int → Int → D} {g' : Int → Int → V} (hg : ∀ i j H, RD K H (g i j) (g' i j)) : Sim2 K (gI0 g) (rI0 g') := by
  intro x y h Qn H vx vy Q rx ry rw_ q kq
  cases x <;> try exact q.elim
  cases y <;> try exact q.elim
  cases rx; cases ry
  exact ⟨_, _, rfl, rfl, kq.here rw_ (hg _ _ _) q⟩
theorem o_sub : Op2 X (binaryOp .Sub) (gI0 fun i j => .int (i - j)) := ⟨_, op_sub, sim_I0 fun _ _ _ => .int _⟩
theorem o_mul : Op2 X (binaryOp .Mult) (gI CMul fun i j => .int (i * j)) := ⟨_, op_mul, sim_I fun _ _ _ => .int _⟩
theorem o_div : Op2 X (binaryOp .FloorDiv) (gI CDiv fun i j => .int (i / j)) := ⟨_, op_fdiv, sim_I fun _ _ _ => .int _⟩
theorem o_mod : Op2 X (binaryOp .Mod) (gI (fun _ j => 0 < j) fun i j => .int (i % j)) := ⟨_, op_mod, sim_I fun _ _ _ => .int _⟩
theorem o_pow : Op2 X (binaryOp .Pow) (gI CPow fun i j => .int (i ^ j.toNat)) := ⟨_, op_pow, sim_I fun _ _ _ => .int _⟩
theorem o_shl : Op2 X (binaryOp .LShift) (gI CPow fun i j => .int (i * 2 ^ j.toNat)) := ⟨_, op_shl, sim_I fun _ _ _ => .int _⟩
theorem o_shr : Op2 X (binaryOp .RShift) (gI (fun _ j => 0 ≤ j) fun i j => .int (i / 2 ^ j.toNat)) := ⟨_, op_shr, sim_I fun _ _ _ => .int _⟩
theorem o_and : Op2 X (binaryOp .BitAnd) (gI0 fun i j => .int (Builtin.bitAnd i j)) := ⟨_, op_and, sim_I0 fun _ _ _ => .int _⟩
theorem o_lt : Op2 X (compareOp .Lt) (gI0 fun i j => .bl (decide (i < j))) := ⟨_, op_lt, sim_I0 fun _ _ _ => .bl _⟩
theorem o_le : Op2 X (compareOp .LtE) (gI0 fun i j => .bl (decide (i ≤ j))) := ⟨_, op_le, sim_I0 fun _ _ _ => .bl _⟩
theorem o_gt : Op2 X (compareOp .Gt) (gI0 fun i j => .bl (decide (j < i))) := ⟨_, op_gt, sim_I0 fun _ _ _ => .bl _⟩
theorem o_ge : Op2 X (compareOp .GtE) (gI0 fun i j => .bl (decide (j ≤ i))) := ⟨_, op_ge, sim_I0 fun _ _ _ => .bl _⟩
/-- t + u of tuples -/
def rCatF (K : PySem.W.Frag) : R2 := fun x y H Q => ∃ a b xs ys, x = .ref a ∧ y = .ref b ∧ SqT K H a xs ∧ SqT K H b ys ∧ xs.length + ys.length ≤ sizeLine ∧
  (xs = [] → Q (.ref b) H) ∧ (xs ≠ [] → ys = [] → Q (.ref a) H) ∧ (xs ≠ [] → ys ≠ [] → NewT H Q (xs ++ ys))
theorem op_catF {X : Cx} : OpR X (binaryOp .Add) (rCatF X.K) := by
  intro pins s σ H x y v u Q I rx ry h
  obtain ⟨a, b, xs, ys, rfl, rfl, ha, hb, hz, q0, q1, q2⟩ := h
  cases rx; cases ry
  obtain ⟨its, r1, p1, _⟩ := I.tuple ha
  obtain ⟨its2, r2, p2, _⟩ := I.tuple hb
  by_cases hx : xs = []
  · subst hx
    cases r1
    exact cat_tup0 p1 p2 ⟨.ref b, H, I, rfl, q0 rfl⟩
  · have l1 := r1.length
    have l2 := r2.length
    refine HT.cat_tup p1 p2 (fun z => hx (r1.nil_iff.mp z)) (fun z => ⟨.ref a, H, I, rfl, q1 hx (r2.nil_iff.mp z)⟩) (fun z => ?_) (by omega)
    exact I.tnew (t' := s.toks) (by rw [List.length_append]; exact hz) (r1.append r2) (q2 hx fun w => z (r2.nil_iff.mpr w))
def gAdd : G2 := fun x y h Q => match x, y with
  | .int i, .int j => Q (.int (i + j)) h
  | .str s, .str t => s.length + t.length ≤ sizeLine ∧ Q (.str (s ++ t)) h
  | .tup xs, .tup ys => xs.length + ys.length ≤ sizeLine ∧ Q (.tup (xs ++ ys)) h
  | .ref a, .ref b => match h a, h b with
    | some (.lst xs), some (.lst ys) => xs.length + ys.length ≤ sizeLine ∧ NewL h (xs ++ ys) Q
    | _, _ => False
  | _, _ => False
theorem o_add : Op2 X (binaryOp .Add) gAdd := by
  refine ⟨_, op_add.or (op_add_str.or (op_catF.or op_cat)), ?_⟩
  intro x y h Qn H vx vy Q rx ry rw_ q kq
  cases x with
  | int i =>
    cases y <;> try exact q.elim
    cases rx; cases ry
    exact .inl ⟨_, _, rfl, rfl, kq.here rw_ (.int _) q⟩
  | str s =>
    cases y <;> try exact q.elim
    cases rx; cases ry
    exact .inr (.inl ⟨_, _, rfl, rfl, q.1, kq.here rw_ (.str _) q.2⟩)
  | tup xs =>
    cases y <;> try exact q.elim
    obtain ⟨a, vs, rfl, ta, ra⟩ := rx.tup_inv
    obtain ⟨b, ws, rfl, tb, rb⟩ := ry.tup_inv
    refine .inr (.inr (.inl ⟨a, b, vs, ws, rfl, rfl, ta.sqT, tb.sqT, by rw [← ra.length, ← rb.length]; exact q.1, fun e => ?_, fun e1 e2 => ?_, fun _ _ => ?_⟩))
    · subst e
      cases ra
      exact kq.here rw_ (.tup tb rb) q.2
    · subst e2
      cases rb
      refine kq.here rw_ (.tup ta ra) ?_
      have z := q.2
      rw [List.append_nil] at z
      exact z
    · exact newT_ok (.refl H) rw_ (ra.append rb) q.2 kq
  | ref a =>
    cases y <;> try exact q.elim
    rename_i b
    cases rx; cases ry
    unfold gAdd at q
    dsimp only at q
    split at q
    · rename_i xs ys e1 e2
      obtain ⟨vs, h1, r1⟩ := rw_ _ _ e1
      obtain ⟨ws, h2, r2⟩ := rw_ _ _ e2
      exact .inr (.inr (.inr ⟨_, _, vs, ws, rfl, rfl, h1, h2, by rw [← r1.length, ← r2.length]; exact q.1, fun p hp => newL_ok (.refl H) rw_ (r1.append r2) q.2 kq hp⟩))
    · exact q.elim
  | _ => exact q.elim
/-- is, is not: None, truth values -/
def gIs (neg : Bool) : G2 := fun x y h Q => match x, y with
  | .non, .non => Q (.bl (!neg)) h
  | _, .non => Q (.bl neg) h
  | .bl a, .bl b => Q (.bl (if neg = true then !decide (a = b) else decide (a = b))) h
  | _, _ => False
theorem RD.not_non {d : D} {v : V} (r : RD K H d v) (n : d ≠ .non) : v ≠ .non := by
  cases r <;> first | exact absurd rfl n | exact fun z => nomatch z
theorem o_isnot : Op2 X (compareOp .IsNot) (gIs true) := by
  refine ⟨_, op_notN.or op_notBl, ?_⟩
  intro x y h Qn H vx vy Q rx ry rw_ q kq
  cases y with
  | non =>
    cases ry
    refine .inl ⟨rfl, ?_⟩
    cases x with
    | non => cases rx; exact kq.here rw_ (.bl _) q
    | _ => (have n := rx.not_non (fun z => nomatch z); rw [decide_eq_false n]; exact kq.here rw_ (.bl _) q)
  | bl b =>
    cases x <;> try exact q.elim
    cases rx; cases ry
    exact .inr ⟨_, _, rfl, rfl, kq.here rw_ (.bl _) q⟩
  | _ => cases x <;> exact q.elim
theorem o_is : Op2 X (compareOp .Is) (gIs false) := by
  refine ⟨_, op_isN.or op_isBl, ?_⟩
  intro x y h Qn H vx vy Q rx ry rw_ q kq
  cases y with
  | non =>
    cases ry
    refine .inl ⟨rfl, ?_⟩
    cases x with
    | non => cases rx; exact kq.here rw_ (.bl _) q
    | _ => (have n := rx.not_non (fun z => nomatch z); rw [decide_eq_false n]; exact kq.here rw_ (.bl _) q)
  | bl b =>
    cases x <;> try exact q.elim
    cases rx; cases ry
    exact .inr ⟨_, _, rfl, rfl, kq.here rw_ (.bl _) q⟩
  | _ => cases x <;> exact q.elim
/-! ### ==, != of data -/
mutual
def pyD (f : Addr → Option PyData) : D → Option PyData
  | .non => some .none
  | .bl b => some (.bool b)
  | .int i => some (.int i)
  | .str x => some (.str x)
  | .tup xs => (pyDs f xs).map .tuple
  | .otup xs => (pyDs f xs).map .tuple
  | .sl xs => (pyDs f xs).map .list
  | .ref a => f a
def pyDs (f : Addr → Option PyData) : List D → Option (List PyData)
  | [] => some []
  | x :: xs => match pyD f x, pyDs f xs with
    | some d, some ds => some (d :: ds)
    | _, _ => none
end
def pyR : Nat → DH → Addr → Option PyData
  | 0, _, _ => none
  | n + 1, h, a => match h a with
    | some (.lst xs) => (pyDs (pyR n h) xs).map .list
    | _ => none
mutual
theorem pyD_ok {f : Addr → Option PyData} (hf : ∀ a d, f a = some d → Dp K H (.ref a) d) : ∀ {x : D} {v : V} {d : PyData}, RD K H x v → pyD f x = some d → Dp K H v d
  | _, _, _, .non, e => by simp only [pyD, Option.some.injEq] at e; subst e; exact .non
  | _, _, _, .bl b, e => by simp only [pyD, Option.some.injEq] at e; subst e; exact .bl b
  | _, _, _, .int b, e => by simp only [pyD, Option.some.injEq] at e; subst e; exact .int b
  | _, _, _, .str b, e => by simp only [pyD, Option.some.injEq] at e; subst e; exact .str b
  | _, _, _, .tup t r, e => by
    simp only [pyD, Option.map_eq_some_iff] at e
    obtain ⟨ds, e1, rfl⟩ := e
    exact .tup (t.sqT) (pyDs_ok hf r e1)
  | _, _, _, .otup t r, e => by
    simp only [pyD, Option.map_eq_some_iff] at e
    obtain ⟨ds, e1, rfl⟩ := e
    exact .tup (SqT.of t) (pyDs_ok hf r e1)
  | _, _, _, .sl t r, e => by
    simp only [pyD, Option.map_eq_some_iff] at e
    obtain ⟨ds, e1, rfl⟩ := e
    exact .lst t.seq (pyDs_ok hf r e1)
  | _, _, _, .ref a, e => by simp only [pyD] at e; exact hf _ _ e
theorem pyDs_ok {f : Addr → Option PyData} (hf : ∀ a d, f a = some d → Dp K H (.ref a) d) : ∀ {xs : List D} {vs : List V} {ds : List PyData}, RDs K H xs vs → pyDs f xs = some ds → DpAll K H vs ds
  | _, _, _, .nil, e => by simp only [pyDs, Option.some.injEq] at e; subst e; exact .nil
  | _, _, _, .cons r t, e => by
    rw [pyDs] at e
    split at e
    · rename_i d ds e1 e2
      cases e
      exact .cons (pyD_ok hf r e1) (pyDs_ok hf t e2)
    · cases e
end
theorem pyR_ok {h : DH} (rw_ : RW K h H) : ∀ (n : Nat) (a : Addr) (d : PyData), pyR n h a = some d → Dp K H (.ref a) d
  | 0, _, _, e => by cases e
  | n + 1, a, d, e => by
    rw [pyR] at e
    split at e
    · rename_i xs e1
      simp only [Option.map_eq_some_iff] at e
      obtain ⟨ds, e2, rfl⟩ := e
      obtain ⟨vs, hv, r⟩ := rw_ _ _ e1
      exact .lst (SqL.of hv) (pyDs_ok (pyR_ok rw_ n) r e2)
    · cases e
/-- data at most three lists deep -/
abbrev py (h : DH) (x : D) : Option PyData := pyD (pyR 3 h) x
def gEq (neg : Bool) : G2 := fun x y h Q => match py h x, py h y with
  | some d, some e => SeqAt.shaped d = true ∧ SeqAt.shaped e = true ∧ Q (.bl (if neg = true then !PyData.eqv d e else PyData.eqv d e)) h
  | _, _ => False
theorem o_eq (hu : X.A.units + 64 < cLine) : Op2 X (compareOp .Eq) (gEq false) := by
  refine ⟨_, op_eqD hu, ?_⟩
  intro x y h Qn H vx vy Q rx ry rw_ q kq
  unfold gEq at q
  split at q
  · rename_i d e e1 e2
    exact ⟨d, e, pyD_ok (pyR_ok rw_ 3) rx e1, pyD_ok (pyR_ok rw_ 3) ry e2, q.1, q.2.1, kq.here rw_ (.bl _) q.2.2⟩
  · exact q.elim
theorem o_ne (hu : X.A.units + 64 < cLine) : Op2 X (compareOp .NotEq) (gEq true) := by
  refine ⟨_, op_neD hu, ?_⟩
  intro x y h Qn H vx vy Q rx ry rw_ q kq
  unfold gEq at q
  split at q
  · rename_i d e e1 e2
    exact ⟨d, e, pyD_ok (pyR_ok rw_ 3) rx e1, pyD_ok (pyR_ok rw_ 3) ry e2, q.1, q.2.1, kq.here rw_ (.bl _) q.2.2⟩
  · exact q.elim
/-! ### items, slices -/
def QAt (h : DH) (Q : QD) (o : Option D) : Prop := match o with
  | some d => Q d h
  | none => False
theorem QAt.get {h : DH} {Q : QD} {o : Option D} (q : QAt h Q o) : ∃ d, o = some d ∧ Q d h := by
  cases o with
  | none => exact q.elim
  | some d => exact ⟨d, rfl, q⟩
def gIx : G2 := fun x y h Q => match x, y with
  | .tup xs, .int i => QAt h Q (atI xs i)
  | .otup xs, .int i => QAt h Q (atI xs i)
  | .sl xs, .int i => QAt h Q (atI xs i)
  | .str z, .int i => z.length ≤ sizeLine ∧ QAt h Q ((atI z.cps.toList i).map fun c => .str ⟨#[c]⟩)
  | .ref a, .int i => match h a with
    | some (.lst xs) => QAt h Q (atI xs i)
    | _ => False
  | _, _ => False
theorem RDs.at {xs : List D} {vs : List V} (r : RDs K H xs vs) {i : Int} {d : D} (e : atI xs i = some d) : ∃ v, atI vs i = some v ∧ RD K H d v := by
  unfold atI at e ⊢
  rw [← r.length]
  cases q : ixN xs.length i with
  | none => rw [q] at e; cases e
  | some j =>
    rw [q] at e
    exact r.get (i := j) e
theorem o_ix : ∃ r, IxR X r ∧ Sim2 X.K gIx r := by
  refine ⟨_, ix_seq, ?_⟩
  intro x y h Qn H vx vy Q rx ry rw_ q kq
  cases y <;> try (cases x <;> exact q.elim)
  rename_i i
  cases ry
  cases x with
  | tup xs =>
    obtain ⟨a, vs, rfl, t, r⟩ := rx.tup_inv
    obtain ⟨d, e, q⟩ := QAt.get q
    obtain ⟨v, e1, rd⟩ := r.at e
    exact .inr (.inl ⟨_, _, _, _, rfl, rfl, t.sqT, e1, kq.here rw_ rd q⟩)
  | otup xs =>
    cases rx with
    | otup t r =>
      obtain ⟨d, e, q⟩ := QAt.get q
      obtain ⟨v, e1, rd⟩ := r.at e
      exact .inr (.inl ⟨_, _, _, _, rfl, rfl, SqT.of t, e1, kq.here rw_ rd q⟩)
  | sl xs =>
    obtain ⟨a, vs, rfl, t, r⟩ := rx.sl_inv
    obtain ⟨d, e, q⟩ := QAt.get q
    obtain ⟨v, e1, rd⟩ := r.at e
    exact .inl ⟨_, _, _, _, rfl, rfl, t.seq, e1, kq.here rw_ rd q⟩
  | str z =>
    cases rx
    obtain ⟨hl, q⟩ := q
    obtain ⟨d, e, q⟩ := QAt.get q
    cases e1 : atI z.cps.toList i with
    | none => rw [e1] at e; cases e
    | some c =>
      rw [e1] at e; cases e
      exact .inr (.inr ⟨_, _, _, rfl, rfl, hl, e1, kq.here rw_ (.str _) q⟩)
  | ref a =>
    cases rx
    unfold gIx at q
    dsimp only at q
    split at q
    · rename_i xs e0
      obtain ⟨vs, hv, r⟩ := rw_ _ _ e0
      obtain ⟨d, e, q⟩ := QAt.get q
      obtain ⟨v, e1, rd⟩ := r.at e
      exact .inl ⟨_, _, _, _, rfl, rfl, SqL.of hv, e1, kq.here rw_ rd q⟩
    · exact q.elim
  | _ => exact q.elim
end
section
variable {X : Cx} {e : Expr} {w : WE} {lo hi : Option Expr} {pos p2 : Pos}
abbrev WO := Ev → DH → (Option Int → DH → Prop) → QX → Prop
def tO (K : PySem.W.Frag) (W : WX) (w : WO) : TO := fun σ H Q => ∃ (env : Ev) (h : DH) (Qn : Option Int → DH → Prop) (Qx : QX), RS K H env σ ∧ RW K h H ∧ w env h Qn Qx ∧ (∀ o h' H', Pe H H' → RW K h' H' → Qn o h' → Q o H') ∧ KX K H Qx W σ
structure DOp (X : Cx) (e : Option Expr) (w : WO) : Prop where
  ok : ∀ W, Cok X W → PO X e (tO X.K W w)
theorem _root_.L2.PO.imp {X : Cx} {e : Option Expr} {t t' : TO} (p : PO X e t) (h : ∀ σ H Q, t' σ H Q → t σ H Q) : PO X e t' := ⟨fun pins s σ H Q I q => p.run pins s σ H Q I (h σ H Q q)⟩
def wNoP : WO := fun _ h Q _ => Q none h
def wPart (w : WE) : WO := fun env h Q Qx => w env h (fun d h1 => match d with
  | .int i => Q (some i) h1
  | _ => False) Qx
theorem do_none : DOp X none wNoP := ⟨fun W ck => po_none.imp fun σ H Q ⟨env, h, Qn, Qx, rs, rw_, q, kq, kx⟩ => kq none h H (.refl H) rw_ q⟩
theorem do_some (h : DE X e w) : DOp X (some e) (wPart w) := ⟨fun W ck => (po_some (h.ok W ck)).imp fun σ H Q ⟨env, h, Qn, Qx, rs, rw_, q, kq, kx⟩ =>
  ⟨env, h, _, Qx, rs, rw_, q, fun d h1 v H1 p1 r1 rd q1 => by
    cases d <;> try exact q1.elim
    exact ⟨_, rd.int_inv, kq _ _ _ p1 r1 q1⟩, kx⟩⟩
def cutD (xs : List D) (lo hi : Option Int) : List D := (xs.drop (HT.sIx xs.length 0 lo)).take (HT.sIx xs.length xs.length hi - HT.sIx xs.length 0 lo)
theorem RDs.cut {K : PySem.W.Frag} {H : Hp} {xs : List D} {vs : List V} (r : RDs K H xs vs) (lo hi : Option Int) : RDs K H (cutD xs lo hi) (cutV vs lo hi) := by
  unfold cutD cutV
  rw [← r.length]
  exact (r.drop _).take _
def gSl (x : D) (lo hi : Option Int) (h : DH) (Q : QD) : Prop := match x with
  | .tup xs => Q (.tup (cutD xs lo hi)) h
  | .sl xs => NewL h (cutD xs lo hi) Q
  | .str z => z.length ≤ sizeLine ∧ Q (.str (cutS z lo hi)) h
  | .ref a => match h a with
    | some (.lst xs) => NewL h (cutD xs lo hi) Q
    | _ => False
  | _ => False
def wSl (w : WE) (wl wh : WO) : WE := fun env h Q Qx => w env h (fun x h1 => wl env h1 (fun lo h2 => wh env h2 (fun hi h3 => gSl x lo hi h3 Q) Qx) Qx) Qx
theorem cut_whole {xs : List V} {lo hi : Option Int} (e : HT.sIx xs.length 0 lo = 0 ∧ HT.sIx xs.length xs.length hi = xs.length) : cutV xs lo hi = xs := by
  unfold cutV
  rw [e.1, e.2]
  simp
theorem cut_wholeD {xs : List D} {lo hi : Option Int} (e : HT.sIx xs.length 0 lo = 0 ∧ HT.sIx xs.length xs.length hi = xs.length) : cutD xs lo hi = xs := by
  unfold cutD
  rw [e.1, e.2]
  simp
def rSlF (K : PySem.W.Frag) : V → Option Int → Option Int → Hp → VK → Prop := fun x lo hi H Q => ∃ a xs, x = .ref a ∧ SqT K H a xs ∧
  (HT.sIx xs.length 0 lo = 0 ∧ HT.sIx xs.length xs.length hi = xs.length → Q (.ref a) H) ∧ (¬ (HT.sIx xs.length 0 lo = 0 ∧ HT.sIx xs.length xs.length hi = xs.length) → NewT H Q (cutV xs lo hi))
theorem sl_tupF {X : Cx} : SlR X (rSlF X.K) := by
  intro pins s σ H x v vl vu lo hi sl Q I rx hs pl pu h
  obtain ⟨a, xs, rfl, hx, q1, q2⟩ := h
  cases rx
  obtain ⟨its, r, ht, hz⟩ := I.tuple hx
  have hl : its.toArray.size = xs.length := by rw [List.size_toArray, r.length]
  refine ⟨"tuple", _, PyProof.Rows.slot_tuple_getitem.lookup, ht.typeIs, ?_⟩
  by_cases hw : HT.sIx xs.length 0 lo = 0 ∧ HT.sIx xs.length xs.length hi = xs.length
  · exact getItem_tuple_whole ht hs pl pu (by rw [hl]; exact hw) ⟨.ref a, H, I, rfl, q1 hw⟩
  · refine HT.getItem_tuple_cut ht hs pl pu (by rw [hl]; exact hw) ?_ (by rw [hl]; exact hz)
    rw [hl]
    exact I.tnew (t' := s.toks) (Nat.le_trans (cutV_length xs lo hi) hz) ((r.drop _).take _) (q2 hw)
theorem sl_ok {K : PySem.W.Frag} {H : Hp} {x : D} {lo hi : Option Int} {h : DH} {Qn : QD} {v : V} {Q : VK} (rd : RD K H x v) (rw_ : RW K h H) (q : gSl x lo hi h Qn) (kq : KQ K H Qn Q) :
    rSlL K v lo hi H Q ∨ rSlF K v lo hi H Q ∨ rSlS v lo hi H Q := by
  cases x with
  | tup xs =>
    obtain ⟨a, vs, rfl, t, r⟩ := rd.tup_inv
    refine .inr (.inl ⟨a, vs, rfl, t.sqT, fun e => ?_, fun _ => ?_⟩)
    · refine kq.here rw_ (.tup t r) ?_
      have z : Qn (.tup (cutD xs lo hi)) h := q
      rw [cut_wholeD (by rw [r.length]; exact e)] at z
      exact z
    · exact newT_ok (.refl H) rw_ (r.cut lo hi) q kq
  | sl xs =>
    obtain ⟨a, vs, rfl, t, r⟩ := rd.sl_inv
    exact .inl ⟨a, vs, rfl, t.seq, fun p hp => newL_ok (.refl H) rw_ (r.cut lo hi) q kq hp⟩
  | str z =>
    cases rd
    exact .inr (.inr ⟨z, rfl, q.1, kq.here rw_ (.str _) q.2⟩)
  | ref a =>
    cases rd
    unfold gSl at q
    dsimp only at q
    split at q
    · rename_i xs e
      obtain ⟨vs, hv, r⟩ := rw_ _ _ e
      exact .inl ⟨a, vs, rfl, SqL.of hv, fun p hp => newL_ok (.refl H) rw_ (r.cut lo hi) q kq hp⟩
    · exact q.elim
  | _ => exact q.elim
theorem de_sl {wl wh : WO} (he : DE X e w) (hl : DOp X lo wl) (hh : DOp X hi wh) : DE X (.Subscript e (.Slice lo hi none p2) pos) (wSl w wl wh) :=
  ⟨fun W ck => (pe_slice (sl_list.or (sl_tupF.or sl_str)) (he.ok W ck) (hl.ok W ck) (hh.ok W ck)).imp fun σ H Q ⟨env, h, Qn, Qx, rs, rw_, q, kq, kx⟩ =>
    ⟨env, h, _, Qx, rs, rw_, q, fun x h1 v H1 p1 r1 rd q1 => ⟨env, h1, _, Qx, rs.mono p1, r1, q1, fun lo h2 H2 p2 r2 q2 => ⟨env, h2, _, Qx, rs.mono (p1.trans p2), r2, q2, fun hi h3 H3 p3 r3 q3 =>
      sl_ok (rd.mono (p2.trans p3)) r3 q3 (kq.mono (p1.trans (p2.trans p3))), kx.mono (p1.trans p2)⟩, kx.mono p1⟩, kx⟩⟩
/-- xs[::-1] of a list -/
def gRevL (x : D) (h : DH) (Q : QD) : Prop := match x with
  | .sl xs => NewL h xs.reverse Q
  | .ref a => match h a with
    | some (.lst xs) => NewL h xs.reverse Q
    | _ => False
  | _ => False
def wRevL (w : WE) : WE := fun env h Q Qx => w env h (fun x h1 => gRevL x h1 Q) Qx
theorem de_revL {k : Nat} {p1 p2 p3 : Pos} (he : DE X e w) : DE X (.Subscript e (.Slice none none (some (.UnaryOp .USub (.Constant (.int 1) k p1) p2)) p3) pos) (wRevL w) :=
  ⟨fun W ck => (pe_revL (he.ok W ck)).imp fun σ H Q ⟨env, h, Qn, Qx, rs, rw_, q, kq, kx⟩ =>
    ⟨env, h, _, Qx, rs, rw_, q, fun x h1 v H1 p1 r1 rd q1 => by
      cases x with
      | sl xs =>
        obtain ⟨a, vs, rfl, t, r⟩ := rd.sl_inv
        exact ⟨a, vs, rfl, t.seq, fun p hp => newL_ok p1 r1 r.reverse q1 kq hp⟩
      | ref a =>
        cases rd
        unfold gRevL at q1
        dsimp only at q1
        split at q1
        · rename_i xs e
          obtain ⟨vs, hv, r⟩ := r1 _ _ e
          exact ⟨a, vs, rfl, SqL.of hv, fun p hp => newL_ok p1 r1 r.reverse q1 kq hp⟩
        · exact q1.elim
      | _ => exact q1.elim, kx⟩⟩
/-- -a -/
def wNeg (w : WE) : WE := fun env h Q Qx => w env h (fun d h1 => match d with
  | .int i => Q (.int (-i)) h1
  | _ => False) Qx
theorem de_neg (he : DE X e w) : DE X (.UnaryOp .USub e pos) (wNeg w) :=
  ⟨fun W ck => (pe_un un_neg (he.ok W ck)).imp fun σ H Q ⟨env, h, Qn, Qx, rs, rw_, q, kq, kx⟩ =>
    ⟨env, h, _, Qx, rs, rw_, q, fun x h1 v H1 p1 r1 rd q1 => by
      cases x <;> try exact q1.elim
      exact ⟨_, rd.int_inv, kq _ _ _ _ p1 r1 (.int _) q1⟩, kx⟩⟩
end
/-! ### a tuple times a small int, nought and one too -/
section
variable {a : Addr} {vs : Array Value} {m : Nat} {od : Option Addr} {os : Array (Option Value)} {k : Int} {tk : Tok}
theorem mul_same (hk : (decide (k < -(2 ^ 63)) || decide (k ≥ 2 ^ 63)) = false) (hs : (vs.isEmpty || k == 1) = true) :
    Meets (Builtin.«tuple.__mul__» ⟨[.ref a, .int k tk], []⟩) (fun _ R s => s.heap.get? a = some ⟨.type "tuple", od, .seq vs m, os⟩ ∧ R (.ok (.ret (Value.ref a))) s) :=
  .of_wp fun prog w A R s h => by
    obtain ⟨hp, g, d, t, oo⟩ := s
    obtain ⟨hl, h⟩ := h
    have f1 := AutoSeq1.idx_int
    wp_walk using wpAny_loadPart' hl
    refine wpAny_ite_false (decide_eq_false (by rw [hk]; decide)) ?_
    wp_walk using wpAny_loadPart' hl
    exact ⟨_, rfl, h⟩
theorem mul_none (hk : (decide (k < -(2 ^ 63)) || decide (k ≥ 2 ^ 63)) = false) (hs : (vs.isEmpty || k == 1) = false) (hz : (decide (k ≤ 0) || vs.isEmpty) = true) :
    Meets (Builtin.«tuple.__mul__» ⟨[.ref a, .int k tk], []⟩) (fun _ R s => s.heap.get? a = some ⟨.type "tuple", od, .seq vs m, os⟩ ∧ R (.ok (.ret (Value.ref s.heap.objs.size))) { s with heap := s.heap.push ⟨.type "tuple", none, .seq #[] 0, #[]⟩, toks := s.toks }) :=
  .of_wp fun prog w A R s h => by
    obtain ⟨hp, g, d, t, oo⟩ := s
    obtain ⟨hl, h⟩ := h
    have f1 := AutoSeq1.idx_int
    wp_walk using wpAny_loadPart' hl
    refine wpAny_ite_false (decide_eq_false (by rw [hk]; decide)) ?_
    wp_walk using wpAny_loadPart' hl
    exact ⟨_, rfl, h⟩
def rMulT (K : PySem.W.Frag) : R2 := fun x y H Q => ∃ a k xs, x = .ref a ∧ y = .int k ∧ SqT K H a xs ∧ 0 ≤ k ∧ k ≤ 1000 ∧ xs.length ≤ 1000 ∧
  ((xs = [] ∨ k = 1) → Q (.ref a) H) ∧ (xs ≠ [] → k = 0 → NewT H Q []) ∧ (xs ≠ [] → 2 ≤ k → NewT H Q (List.replicate k.toNat xs).flatten)
end
section
variable {X : Cx}
theorem op_mulT : OpR X (binaryOp .Mult) (rMulT X.K) := by
  intro pins s σ H x y v u Q I rx ry h
  obtain ⟨a, k, xs, ex, ey, hT, h0, h1, hz, q1, q2, q3⟩ := h
  subst ex ey
  cases rx
  obtain ⟨t, rfl⟩ := ry
  obtain ⟨its, r, ⟨⟨cls, od, data, os⟩, ho, hc, n, hd⟩, hs⟩ := I.tuple hT
  simp only at hc hd
  subst hc hd
  have len := r.length
  have b1 : (decide (k < -(2 ^ 63)) || decide (k ≥ 2 ^ 63)) = false := by
    rw [decide_eq_false (by omega), decide_eq_false (by omega)] <;> rfl
  by_cases c : xs ≠ [] ∧ 2 ≤ k
  · have hi : its.toArray.isEmpty = false := by
      cases its with
      | nil => cases r; exact absurd rfl c.1
      | cons a b => rfl
    have sz : its.toArray.size = xs.length := by rw [List.size_toArray, len]
    have le1 : k.toNat * xs.length ≤ 1000 * 1000 := Nat.mul_le_mul (by omega) hz
    have fl : (List.replicate k.toNat xs).flatten.length ≤ sizeLine := by
      rw [PyProof.Rows.lm_len_rep_flat, sizeLine_eq]; omega
    have fl2 : (List.replicate k.toNat its).flatten.length ≤ sizeLine := by
      rw [PyProof.Rows.lm_len_rep_flat, ← len, sizeLine_eq]; omega
    have big : ((its.toArray.size : Nat) : Int) * k ≤ 1000000 := by
      have e1 : k = ((k.toNat : Nat) : Int) := by omega
      have e2 : ((xs.length : Nat) : Int) * k = ((k.toNat * xs.length : Nat) : Int) := by rw [Nat.mul_comm, e1]; push_cast; rfl
      rw [sz, e2]; omega
    have c1 : (its.toArray.isEmpty || k == 1) = false := by
      rw [hi, Bool.false_or]; exact beq_eq_false_iff_ne.mpr (by omega)
    have c2 : (decide (k ≤ 0) || its.toArray.isEmpty) = false := by
      rw [hi, decide_eq_false (by omega)]; rfl
    have c4 : Builtin.Tuple.tupleTooMany (((its.toArray.size : Nat) : Int) * k) = false := decide_eq_false (by rw [sizeLine_eq]; omega)
    refine wpAny_binaryOp_repeat_ref
      (T := "tuple") (U := "int") (by decide)
      ⟨_, ho, rfl⟩ (fun z => typeIs_int z k t)
      noFill_tuple_mul
      F.fills_int_mul F.slot_int_rmul
      repeat_tuple F.slot_int_index.lookup
      (call_meets F.slot_int_rmul (typeIs_int s k t)
        F.entry_int_rmul (F.args_int_rmul_2 _ _)
        (int_rmul_tuple k t a its.toArray n od os)
        ⟨ho, rfl, ⟨_, ho, rfl⟩, call_meets F.slot_tuple_mul ⟨_, ho, rfl⟩
          F.entry_tuple_mul (F.args_tuple_mul_2 _ _)
          (tuple_mulW a its.toArray n od os k t b1 c1 c2
            (by omega) c4 (by rw [size_rep, List.size_toArray]; exact fl2)) ⟨ho, ?_⟩⟩)
    rw [size_rep]
    exact I.tnew (t' := s.toks) fl (r.rep k.toNat) (q3 c.1 c.2)
  by_cases e : xs = [] ∨ k = 1
  · have b2 : (its.toArray.isEmpty || k == 1) = true := by
      rcases e with e | e
      · subst e; cases r; rfl
      · subst e; simp
    refine wpAny_binaryOp_repeat_ref
      (T := "tuple") (U := "int") (by decide)
      ⟨_, ho, rfl⟩ (fun z => typeIs_int z k t)
      noFill_tuple_mul
      F.fills_int_mul F.slot_int_rmul
      repeat_tuple F.slot_int_index.lookup
      (call_meets F.slot_int_rmul (typeIs_int s k t)
        F.entry_int_rmul (F.args_int_rmul_2 _ _)
        (int_rmul_tuple k t a its.toArray n od os)
        ⟨ho, rfl, ⟨_, ho, rfl⟩, call_meets F.slot_tuple_mul ⟨_, ho, rfl⟩
          F.entry_tuple_mul (F.args_tuple_mul_2 _ _)
          (mul_same b1 b2) ⟨ho, ?_⟩⟩)
    exact ⟨.ref a, H, I, rfl, q1 e⟩
  · have hn : xs ≠ [] := fun z => e (.inl z)
    have hk : k = 0 := by
      have : ¬ k = 1 := fun z => e (.inr z)
      have : ¬ 2 ≤ k := fun z => c ⟨hn, z⟩
      omega
    have hi : its.toArray.isEmpty = false := by
      cases its with
      | nil => cases r; exact absurd rfl hn
      | cons a b => rfl
    have b2 : (its.toArray.isEmpty || k == 1) = false := by rw [hi, hk]; rfl
    have b3 : (decide (k ≤ 0) || its.toArray.isEmpty) = true := by rw [hk]; rfl
    refine wpAny_binaryOp_repeat_ref
      (T := "tuple") (U := "int") (by decide)
      ⟨_, ho, rfl⟩ (fun z => typeIs_int z k t)
      noFill_tuple_mul
      F.fills_int_mul F.slot_int_rmul
      repeat_tuple F.slot_int_index.lookup
      (call_meets F.slot_int_rmul (typeIs_int s k t)
        F.entry_int_rmul (F.args_int_rmul_2 _ _)
        (int_rmul_tuple k t a its.toArray n od os)
        ⟨ho, rfl, ⟨_, ho, rfl⟩, call_meets F.slot_tuple_mul ⟨_, ho, rfl⟩
          F.entry_tuple_mul (F.args_tuple_mul_2 _ _)
          (mul_none b1 b2 b3) ⟨ho, ?_⟩⟩)
    exact I.tnew (t' := s.toks) (xs := []) (its := []) (Nat.zero_le _) .nil (q2 hn hk)
end
/-- a product: of two ints, of a tuple and a small int -/
def gTimes : G2 := fun x y h Q => match x, y with
  | .int i, .int j => CMul i j ∧ Q (.int (i * j)) h
  | .tup xs, .int k => (0 ≤ k ∧ k ≤ 1000 ∧ xs.length ≤ 1000) ∧ Q (.tup (List.replicate k.toNat xs).flatten) h
  | _, _ => False
theorem RDs.rep {K : PySem.W.Frag} {H : Hp} {ds : List D} {vs : List V} (r : RDs K H ds vs) : ∀ n : Nat, RDs K H (List.replicate n ds).flatten (List.replicate n vs).flatten
  | 0 => .nil
  | n + 1 => by
    rw [List.replicate_succ, List.replicate_succ, List.flatten_cons, List.flatten_cons]
    exact r.append (RDs.rep r n)
theorem o_times {X : Cx} : Op2 X (binaryOp .Mult) gTimes := by
  refine ⟨_, op_mul.or op_mulT, ?_⟩
  intro x y h Qn H vx vy Q rx ry rw_ q kq
  cases x with
  | int i =>
    cases y <;> try exact q.elim
    cases rx; cases ry
    exact .inl ⟨_, _, rfl, rfl, q.1, kq.here rw_ (.int _) q.2⟩
  | tup xs =>
    cases y <;> try exact q.elim
    rename_i k
    cases ry
    obtain ⟨a, vs, rfl, ta, ra⟩ := rx.tup_inv
    obtain ⟨⟨h0, h1, hz⟩, q⟩ := q
    refine .inr ⟨a, k, vs, rfl, rfl, ta.sqT, h0, h1, by rw [← ra.length]; exact hz, fun e => ?_, fun e1 e2 => ?_, fun e1 e2 => ?_⟩
    · refine kq.here rw_ (.tup ta ra) ?_
      rcases e with e | e
      · subst e; cases ra
        have z : (List.replicate k.toNat ([] : List D)).flatten = [] := by simp
        rw [z] at q; exact q
      · subst e
        have z : (List.replicate (1 : Int).toNat xs).flatten = xs := by
          show (List.replicate 1 xs).flatten = xs
          simp
        rw [z] at q; exact q
    · subst e2
      exact newT_ok (.refl H) rw_ .nil q kq
    · exact newT_ok (.refl H) rw_ (ra.rep _) q kq
  | _ => exact q.elim
end DL
namespace DL
open PySem PySem.Spec PyProof.Rows L2
/-! ### built-ins by name -/
abbrev GC := List D → DH → QD → Prop
def SimC (K : PySem.W.Frag) (g : GC) (r : List V → Hp → VK → Prop) : Prop := ∀ xs h Qn H vs Q, RDs K H xs vs → RW K h H → g xs h Qn → KQ K H Qn Q → r vs H Q
def OpC (X : Cx) (f : Value) (g : GC) : Prop := ∃ r, CallR X f r ∧ SimC X.K g r
def wCB (g : GC) (ws : WA) : WE := fun env h Q Qx => ws env h (fun ds h1 => g ds h1 Q) Qx
section
variable {X : Cx} {x : Str} {p pos : Pos} {e : Expr} {es : List Expr} {ws : WA} {id T : String} {g : GC}
theorem de_callB (o : OpC X (.builtin id) g) (hg : Gl X x) (hm : X.mg x = none) (hv : bootBuiltins x = some (.builtin id)) (ha : DA X (e :: es) ws) (hn : x ≠ "__name__" := by decide) (hdb : (x == ("__debug__" : Str)) = false := by decide)
    (he : starEach (e :: es) X.env = (false, eval e X.env) :: starEach es X.env := by rfl) (hpl : (backTo pos (starEach es X.env)).any (·.1) = false := by rfl) : DE X (.Call (.Name x p) (e :: es) [] pos) (wCB g ws) := by
  obtain ⟨r, hr, s⟩ := o
  exact ⟨fun W ck => (pe_callB hr hg hm hv (ha.ok W ck) hn hdb he hpl).imp fun σ H Q ⟨env, h, Qn, Qx, rs, rw_, q, kq, kx⟩ =>
    ⟨env, h, _, Qx, rs, rw_, q, fun ds h1 vs H1 p1 r1 rds q1 => s ds h1 Qn H1 vs Q rds r1 q1 (kq.mono p1), kx⟩⟩
theorem de_callTy (o : OpC X (.type T) g) (hg : Gl X x) (hm : X.mg x = none) (hv : bootBuiltins x = some (.type T)) (ha : DA X (e :: es) ws) (hn : x ≠ "__name__" := by decide) (hdb : (x == ("__debug__" : Str)) = false := by decide)
    (he : starEach (e :: es) X.env = (false, eval e X.env) :: starEach es X.env := by rfl) (hpl : (backTo pos (starEach es X.env)).any (·.1) = false := by rfl) : DE X (.Call (.Name x p) (e :: es) [] pos) (wCB g ws) := by
  obtain ⟨r, hr, s⟩ := o
  exact ⟨fun W ck => (pe_callTy hr hg hm hv (ha.ok W ck) hn hdb he hpl).imp fun σ H Q ⟨env, h, Qn, Qx, rs, rw_, q, kq, kx⟩ =>
    ⟨env, h, _, Qx, rs, rw_, q, fun ds h1 vs H1 p1 r1 rds q1 => s ds h1 Qn H1 vs Q rds r1 q1 (kq.mono p1), kx⟩⟩
end
/-- the items of a list or tuple -/
def items (h : DH) : D → Option (List D)
  | .tup xs => some xs
  | .sl xs => some xs
  | .ref a => match h a with
    | some (.lst xs) => some xs
    | _ => none
  | _ => none
section
variable {X : Cx} {K : PySem.W.Frag} {H : Hp} {h : DH}
theorem items_ok {d : D} {v : V} {xs : List D} (rd : RD K H d v) (rw_ : RW K h H) (e : items h d = some xs) : ∃ a vs, v = .ref a ∧ (SqL K H a vs ∨ SqT K H a vs) ∧ RDs K H xs vs := by
  cases d with
  | tup ys =>
    cases e
    obtain ⟨a, vs, rfl, t, r⟩ := rd.tup_inv
    exact ⟨a, vs, rfl, .inr (t.sqT), r⟩
  | sl ys =>
    cases e
    obtain ⟨a, vs, rfl, t, r⟩ := rd.sl_inv
    exact ⟨a, vs, rfl, .inl t.seq, r⟩
  | ref a =>
    cases rd
    unfold items at e
    dsimp only at e
    split at e
    · rename_i ys e1
      cases e
      obtain ⟨vs, hv, r⟩ := rw_ _ _ e1
      exact ⟨a, vs, rfl, .inl (SqL.of hv), r⟩
    · cases e
  | _ => cases e
def One (P : D → Prop) : List D → Prop
  | [d] => P d
  | _ => False
theorem one_inv {P : D → Prop} {xs : List D} {vs : List V} (r : RDs K H xs vs) (q : One P xs) : ∃ d v, xs = [d] ∧ vs = [v] ∧ RD K H d v ∧ P d := by
  cases r with
  | nil => exact q.elim
  | cons rd t =>
    cases t with
    | nil => exact ⟨_, _, rfl, rfl, rd, q⟩
    | cons _ _ => exact q.elim
def LenQ (h : DH) (d : D) (k : Nat → Prop) : Prop := match d with
  | .str z => z.length ≤ sizeLine ∧ k z.length
  | .otup ys => k ys.length
  | d => match items h d with
    | some ys => k ys.length
    | none => False
def gLen : GC := fun xs h Q => One (fun d => LenQ h d fun n => Q (.int n) h) xs
theorem lenQ_ok {d : D} {v : V} {k : Nat → Prop} (rd : RD K H d v) (rw_ : RW K h H) (q : LenQ h d k) : ∃ n, LenV K v H n ∧ k n := by
  have gen : (match items h d with | some ys => k ys.length | none => False) → ∃ n, LenV K v H n ∧ k n := by
    intro q
    cases e : items h d with
    | none => rw [e] at q; exact q.elim
    | some ys =>
      rw [e] at q
      obtain ⟨a, vs, rfl, s, r⟩ := items_ok rd rw_ e
      refine ⟨vs.length, ?_, by rw [← r.length]; exact q⟩
      rcases s with s | s
      · exact .inl ⟨vs, s, rfl⟩
      · exact .inr ⟨vs, s, rfl⟩
  cases d with
  | str z => cases rd; exact ⟨z.length, ⟨q.1, rfl⟩, q.2⟩
  | otup ys =>
    cases rd with
    | @otup a _ vs t r => exact ⟨vs.length, .inr ⟨vs, SqT.of t, rfl⟩, by rw [← r.length]; exact q⟩
  | _ => exact gen q
theorem c_len : OpC X (.builtin "len") gLen := by
  refine ⟨_, call_len, ?_⟩
  intro xs h Qn H vs Q rds rw_ q kq
  obtain ⟨d, v, rfl, rfl, rd, q⟩ := one_inv rds q
  obtain ⟨n, l, q⟩ := lenQ_ok rd rw_ q
  exact ⟨v, n, rfl, l, kq.here rw_ (.int _) q⟩
def gAbs : GC := fun xs h Q => match xs with
  | [.int i] => Q (.int (if i < 0 then -i else i)) h
  | _ => False
def gIntC : GC := fun xs h Q => match xs with
  | [.int i] => Q (.int i) h
  | [.bl k] => Q (.int (if k then 1 else 0)) h
  | _ => False
theorem c_abs : OpC X (.builtin "abs") gAbs := by
  refine ⟨_, call_abs, ?_⟩
  intro xs h Qn H vs Q rds rw_ q kq
  unfold gAbs at q
  split at q
  · cases rds with
    | cons rd t => cases t; cases rd; exact ⟨_, rfl, kq.here rw_ (.int _) q⟩
  · exact q.elim
theorem c_int : OpC X (.type "int") gIntC := by
  refine ⟨_, call_int1, ?_⟩
  intro xs h Qn H vs Q rds rw_ q kq
  unfold gIntC at q
  split at q
  · cases rds with
    | cons rd t => cases t; cases rd; exact .inl ⟨_, rfl, kq.here rw_ (.int _) q⟩
  · cases rds with
    | cons rd t => cases t; cases rd; exact .inr ⟨_, rfl, kq.here rw_ (.int _) q⟩
  · exact q.elim
/-- a list's or tuple's items, given to k -/
def ItQ (h : DH) (d : D) (k : List D → Prop) : Prop := match items h d with
  | some ys => k ys
  | none => False
theorem ItQ.get {d : D} {k : List D → Prop} (q : ItQ h d k) : ∃ ys, items h d = some ys ∧ k ys := by
  unfold ItQ at q
  split at q
  · rename_i ys e; exact ⟨ys, e, q⟩
  · exact q.elim
def gListC : GC := fun xs h Q => One (fun d => ItQ h d fun ys => NewL h ys Q) xs
theorem c_list : OpC X (.type "list") gListC := by
  refine ⟨_, call_list_of, ?_⟩
  intro xs h Qn H vs Q rds rw_ q kq
  obtain ⟨d, v, rfl, rfl, rd, q⟩ := one_inv rds q
  obtain ⟨ys, e, q⟩ := q.get
  obtain ⟨a, vs, rfl, s, r⟩ := items_ok rd rw_ e
  exact ⟨a, vs, rfl, s, fun p hp => newL_ok (.refl H) rw_ r q kq hp⟩
theorem call_tupleF {X : Cx} : CallR X (.type "tuple") (fun xs H Q => ∃ p ys, xs = [.ref p] ∧ ((SqL X.K H p ys ∧ NewT H Q ys) ∨ (SqT X.K H p ys ∧ Q (.ref p) H))) := by
  intro pins s σ H xs us Q I r h
  obtain ⟨p, ys, rfl, h⟩ := h
  obtain ⟨u, rfl, rx⟩ := vals1 r
  cases rx
  rcases h with ⟨hq, q⟩ | ⟨hq, q⟩
  · obtain ⟨its, r', pl, hz⟩ := I.list hq
    have hl := r'.length
    refine call_tuple_list pl.isList (fun h' kp => ?_) (by rw [List.size_toArray]; omega)
    exact (I.kept (t' := s.toks) kp).tnew (t' := s.toks) hz r' q
  · obtain ⟨its, r', pl, hz⟩ := I.tuple hq
    exact call_tuple_same pl ⟨.ref p, H, I, rfl, q⟩
def gTupC : GC := fun xs h Q => One (fun d => ItQ h d fun ys => Q (.tup ys) h) xs
theorem c_tuple : OpC X (.type "tuple") gTupC := by
  refine ⟨_, call_tupleF, ?_⟩
  intro xs h Qn H vs Q rds rw_ q kq
  obtain ⟨d, v, rfl, rfl, rd, q⟩ := one_inv rds q
  obtain ⟨ys, e, q2⟩ := q.get
  cases d with
  | tup zs =>
    cases e
    obtain ⟨a, vs, rfl, t, r⟩ := rd.tup_inv
    exact ⟨a, vs, rfl, .inr ⟨t.sqT, kq.here rw_ (.tup t r) q2⟩⟩
  | sl zs =>
    cases e
    obtain ⟨a, vs, rfl, t, r⟩ := rd.sl_inv
    exact ⟨a, vs, rfl, .inl ⟨t.seq, newT_ok (.refl H) rw_ r q2 kq⟩⟩
  | ref a =>
    cases rd
    unfold items at e
    dsimp only at e
    split at e
    · rename_i zs e1
      cases e
      obtain ⟨vs, hv, r⟩ := rw_ _ _ e1
      exact ⟨a, vs, rfl, .inl ⟨SqL.of hv, newT_ok (.refl H) rw_ r q2 kq⟩⟩
    · cases e
  | _ => cases e
/-- max of a tuple of ints -/
def maxI (n : Int) (ns : List Int) : Int := ns.foldl max n
theorem alike_ints (ns : List Int) : PySem.W.AlikeAll (ns.map PyData.int) := by
  constructor
  · intro x hx y hy
    obtain ⟨a, _, rfl⟩ := List.mem_map.mp hx
    obtain ⟨b, _, rfl⟩ := List.mem_map.mp hy
    rfl
  · intro x hx
    obtain ⟨a, _, rfl⟩ := List.mem_map.mp hx
    exact fun z => nomatch z
theorem depthAll_ints : ∀ ns : List Int, PyData.depthAll (ns.map PyData.int) = 0
  | [] => by simp [PyData.depthAll]
  | n :: ns => by
    have := depthAll_ints ns
    simp [PyData.depthAll, PyData.depth, this]
theorem readsAll_ints {hh : Heap} : ∀ {ns : List Int} {us : List Value}, Vals (ns.map V.int) us → ∃ as, ReadsAll hh us (ns.map PyData.int) as
  | [], _, .nil => ⟨_, .nil⟩
  | n :: ns, _, .cons r t => by
    obtain ⟨k, rfl⟩ := r
    obtain ⟨as, q⟩ := readsAll_ints (hh := hh) t
    exact ⟨_, .cons (.int n k) q⟩
theorem reads_int {hh : Heap} {v : Value} {i : Int} {as : List Addr} (r : Reads hh v (.int i) as) : ∃ t, v = .int i t := by
  cases r; exact ⟨_, rfl⟩
theorem call_maxT (hc : X.calm = true) (hu : X.A.units + 64 < cLine) : CallR X (.builtin "max") (fun xs H Q => ∃ a n ns, xs = [.ref a] ∧ SqT X.K H a ((n :: ns).map V.int) ∧ Q (.int (maxI n ns)) H) := by
  intro pins s σ H xs us Q I r hq
  obtain ⟨a, n, ns, rfl, ht, q⟩ := hq
  obtain ⟨u, rfl, ru⟩ := vals1 r
  cases (show u = Value.ref a from ru)
  obtain ⟨its, rv, ⟨o, e1, e2, k, e3⟩, hz⟩ := I.tuple ht
  obtain ⟨as, hr⟩ := readsAll_ints (hh := s.heap) rv
  have hr' : ReadsAll s.heap its.toArray.toList (PyData.int n :: ns.map PyData.int) as := by simpa using hr
  refine PySem.W.max_tuple_data (I.ok.hd hc) (show s.heap.IsTuple a its.toArray from ⟨o, e1, e2, k, e3⟩) hr' (by have := alike_ints (n :: ns); rwa [List.map_cons] at this)
    (by have z := depthAll_ints (n :: ns); rw [List.map_cons] at z; rw [z]; omega) fun i v h' tk bs _ hv hk => ?_
  rw [PySem.W.maxD_ints] at hv
  obtain ⟨t, rfl⟩ := reads_int hv
  exact ⟨.int _, H, I.kept (t' := tk) hk, ⟨t, rfl⟩, q⟩
/-- the ints of data -/
def intsOf : List D → Option (List Int)
  | [] => some []
  | .int i :: xs => (intsOf xs).map (i :: ·)
  | _ => none
theorem intsOf_map : ∀ ns : List Int, intsOf (ns.map D.int) = some ns
  | [] => rfl
  | n :: ns => by simp [intsOf, intsOf_map ns]
theorem intsOf_eq : ∀ {xs : List D} {ns : List Int}, intsOf xs = some ns → xs = ns.map D.int
  | [], _, e => by cases e; rfl
  | .int i :: xs, ns, e => by
    simp only [intsOf, Option.map_eq_some_iff] at e
    obtain ⟨ms, e1, rfl⟩ := e
    rw [intsOf_eq e1]; rfl
  | .non :: _, _, e => by cases e
  | .bl _ :: _, _, e => by cases e
  | .str _ :: _, _, e => by cases e
  | .tup _ :: _, _, e => by cases e
  | .sl _ :: _, _, e => by cases e
  | .ref _ :: _, _, e => by cases e
def gMaxT : GC := fun xs h Q => match xs with
  | [.tup ys] => match intsOf ys with
    | some (n :: ns) => Q (.int (maxI n ns)) h
    | _ => False
  | _ => False
theorem c_maxT (hu : X.A.units + 64 < cLine) (hc : X.calm = true := by rfl) : OpC X (.builtin "max") gMaxT := by
  refine ⟨_, call_maxT hc hu, ?_⟩
  intro xs h Qn H vs Q rds rw_ q kq
  unfold gMaxT at q
  split at q
  · split at q
    · rename_i ys n ns e
      have e' := intsOf_eq e
      subst e'
      cases rds with
      | cons rd t =>
        cases t
        obtain ⟨a, vs, rfl, t, r⟩ := rd.tup_inv
        have e2 := r.ints_inv
        subst e2
        exact ⟨a, n, ns, rfl, t.sqT, kq.here rw_ (.int _) q⟩
    · exact q.elim
  · exact q.elim
/-- all of a list of truth values -/
def blsOf : List D → Option (List Bool)
  | [] => some []
  | .bl i :: xs => (blsOf xs).map (i :: ·)
  | _ => none
theorem blsOf_map : ∀ ns : List Bool, blsOf (ns.map D.bl) = some ns
  | [] => rfl
  | n :: ns => by simp [blsOf, blsOf_map ns]
theorem blsOf_eq : ∀ {xs : List D} {ns : List Bool}, blsOf xs = some ns → xs = ns.map D.bl
  | [], _, e => by cases e; rfl
  | .bl i :: xs, ns, e => by
    simp only [blsOf, Option.map_eq_some_iff] at e
    obtain ⟨ms, e1, rfl⟩ := e
    rw [blsOf_eq e1]; rfl
  | .non :: _, _, e => by cases e
  | .int _ :: _, _, e => by cases e
  | .str _ :: _, _, e => by cases e
  | .tup _ :: _, _, e => by cases e
  | .sl _ :: _, _, e => by cases e
  | .ref _ :: _, _, e => by cases e
def gAllL (f : List Bool → Bool) : GC := fun xs h Q => match xs with
  | [.ref a] => match h a with
    | some (.lst ys) => match blsOf ys with
      | some bs => Q (.bl (f bs)) h
      | none => False
    | _ => False
  | _ => False
theorem sim_allL {f : List Bool → Bool} {r : List V → Hp → VK → Prop} (hr : ∀ a bs H Q, SqL K H a (bs.map V.bl) → Q (.bl (f bs)) H → r [.ref a] H Q) : SimC K (gAllL f) r := by
  intro xs h Qn H vs Q rds rw_ q kq
  unfold gAllL at q
  split at q
  · split at q
    · rename_i ys e1
      split at q
      · rename_i bs e2
        have e' := blsOf_eq e2
        subst e'
        cases rds with
        | cons rd t =>
          cases t; cases rd
          obtain ⟨vs, hv, r⟩ := rw_ _ _ e1
          have e3 := r.bls_inv
          subst e3
          exact hr _ _ _ _ (SqL.of hv) (kq.here rw_ (.bl _) q)
      · exact q.elim
    · exact q.elim
  · exact q.elim
theorem c_all (hc : X.calm = true := by rfl) : OpC X (.builtin "all") (gAllL fun bs => bs.all id) := ⟨_, cr_all hc, sim_allL fun a bs H Q s q => ⟨a, bs, rfl, s, q⟩⟩
theorem c_any (hc : X.calm = true := by rfl) : OpC X (.builtin "any") (gAllL fun bs => bs.any id) := ⟨_, cr_any hc, sim_allL fun a bs H Q s q => ⟨a, bs, rfl, s, q⟩⟩
/-! isinstance against a built-in class -/
def tyD (h : DH) : D → Option String
  | .non => some "NoneType"
  | .bl _ => some "bool"
  | .int _ => some "int"
  | .str _ => some "str"
  | .tup _ => some "tuple"
  | .sl _ => some "list"
  | .otup _ => some "tuple"
  | .ref a => match h a with
    | some (.lst _) => some "list"
    | some (.dK _) => some "dict"
    | some (.dT _) => some "dict"
    | _ => none
theorem tyD_ok {d : D} {v : V} {T : String} (rd : RD K H d v) (rw_ : RW K h H) (e : tyD h d = some T) : TyX K H v (.type T) := by
  cases d with
  | non => cases e; cases rd; exact .base .non
  | bl b => cases e; cases rd; exact .base (.bl b)
  | int b => cases e; cases rd; exact .base (.int b)
  | str b => cases e; cases rd; exact .base (.str b)
  | tup ys =>
    cases e
    obtain ⟨a, vs, rfl, t, r⟩ := rd.tup_inv
    rcases t with ⟨o, t, _⟩ | ⟨o, its, n, hk, hc, _⟩
    · exact .fTuple t
    · exact .kTuple hk hc
  | otup ys =>
    cases e
    cases rd with
    | otup t r => exact .base (.tup t)
  | sl ys =>
    cases e
    obtain ⟨a, vs, rfl, t, r⟩ := rd.sl_inv
    rcases t with ⟨o, t⟩ | ⟨o, its, n, hk, hc, _⟩
    · exact .base (.frz t)
    · exact .kList hk hc
  | ref a =>
    cases rd
    unfold tyD at e
    dsimp only at e
    split at e
    · rename_i xs e1
      cases e
      obtain ⟨vs, hv, r⟩ := rw_ _ _ e1
      exact .base (.lst hv)
    · rename_i xs e1
      cases e
      obtain ⟨vs, hv, r⟩ := rw_ _ _ e1
      exact .base (.dK hv)
    · rename_i xs e1
      cases e
      obtain ⟨vs, hv, r⟩ := rw_ _ _ e1
      exact .base (.dT hv)
    · cases e
/-- which classes of the five take which: bool is an int -/
def isiB (T : String) (c : String) : Bool := (T == c) || (T == "bool" && c == "int")
end
section
variable {X : Cx} {e : Expr} {w : WE} {p p2 pos : Pos} {c : Str} {T : String}
def TyQ (h : DH) (d : D) (k : String → Prop) : Prop := match tyD h d with
  | some t => k t
  | none => False
theorem TyQ.get {h : DH} {d : D} {k : String → Prop} (q : TyQ h d k) : ∃ t, tyD h d = some t ∧ k t := by
  unfold TyQ at q
  split at q
  · rename_i t e; exact ⟨t, e, q⟩
  · exact q.elim
def wIsi (w : WE) (T : String) : WE := fun env h Q Qx => w env h (fun d h1 => TyQ h1 d fun t => Q (.bl (isiB t T)) h1) Qx
def kT : List String := ["NoneType", "bool", "int", "str", "tuple", "list", "dict"]
theorem tyD_in {h : DH} {d : D} {t : String} (e : tyD h d = some t) : t ∈ kT := by
  cases d <;> first
    | (cases e; decide)
    | (cases e; done)
    | (unfold tyD at e; dsimp only at e; split at e <;> first | (cases e; decide) | cases e)
/-- isinstance(e, T) -/
theorem de_isi (hg : Gl X "isinstance") (hm : X.mg "isinstance" = none) (hgc : Gl X c) (hmc : X.mg c = none) (hvc : bootBuiltins c = some (.type T)) (ha : DE X e w)
    (hk : kT.all (fun t => kitB t T == some (isiB t T)) = true := by decide +kernel) (hnc : c ≠ "__name__" := by decide) (hdc : (c == ("__debug__" : Str)) = false := by decide)
    (h1 : starEach [e, .Name c p2] X.env = (false, eval e X.env) :: starEach [.Name c p2] X.env := by rfl) (h2 : starEach [.Name c p2] X.env = (false, eval (.Name c p2) X.env) :: starEach [] X.env := by rfl)
    (hpl : (backTo pos (starEach [.Name c p2] X.env)).any (·.1) = false := by rfl) : DE X (.Call (.Name "isinstance" p) [e, .Name c p2] [] pos) (wIsi w T) :=
  ⟨fun W ck => (pe_callB call_isi hg hm (by decide +kernel) (pa_cons (ha.ok W ck) (pa_cons (pe_bltn (v := .ty T) hgc hmc hvc rfl hnc hdc) pa_nil h2) h1) (by decide) (by decide) h1 hpl).imp fun σ H Q ⟨env, h, Qn, Qx, rs, rw_, q, kq, kx⟩ =>
    ⟨env, h, _, Qx, rs, rw_, q, fun d h1 v H1 p1 r1 rd q1 => by
      obtain ⟨t, et, q1⟩ := q1.get
      exact ⟨v, .ty T, .type t, .type T, isiB t T, rfl, .ty T, tyD_ok rd r1 et, kit_ty (by have z := List.all_eq_true.mp hk t (tyD_in et); exact eq_of_beq z), kq _ h1 _ _ p1 r1 (.bl _) q1⟩, kx⟩⟩
end
end DL
namespace DL
open PySem PySem.Spec PyProof.Rows L2
/-! ### what a def is worth -/
abbrev WF := List D → DH → QD → QX → Prop
def KE (K : PySem.W.Frag) (H : Hp) (Qx : QX) (E : XK) : Prop := ∀ x h' c d H', Pe H H' → RW K h' H' → RX K H' x c d → Qx x h' → E c d H'
def spD (K : PySem.W.Frag) (n : Nat) (wf : WF) : Sp := fun vs H Q E => vs.length = n ∧ ∃ ds h Qn Qx, RDs K H ds vs ∧ RW K h H ∧ wf ds h Qn Qx ∧ KQ K H Qn Q ∧ KE K H Qx E
/-- a def of the text by its worth -/
abbrev FnD (P : Program) (w : World) (K : PySem.W.Frag) (mg : Str → Option Value) (base : Heap) (k : Nat) (f : Addr) (fd : FuncData) (ps : List Str) (wf : WF) : Prop := FnOk P w K mg base (L2.CX P w) k f fd ps (spD K ps.length wf)
section
variable {X : Cx} {k : Nat} {f C : Addr} {fd : FuncData} {ps : List Str} {wf : WF} {x m : Str} {p pos apos : Pos} {e o : Expr} {es : List Expr} {wo : WE} {ws : WA}
def wCall (wf : WF) (ws : WA) : WE := fun env h Q Qx => ws env h (fun ds h1 => wf ds h1 Q Qx) Qx
theorem spD_of {K : PySem.W.Frag} {H H1 : Hp} {n : Nat} {ds : List D} {h1 : DH} {vs : List V} {Qn : QD} {Qx : QX} {Q : VK} {W : WX} {σ : L2.St} (hl : vs.length = n) (p1 : Pe H H1) (rds : RDs K H1 ds vs) (r1 : RW K h1 H1) (q : wf ds h1 Qn Qx) (kq : KQ K H Qn Q) (kx : KX K H Qx W σ) :
    spD K n wf vs H1 Q (L2.WE W σ) := ⟨hl, ds, h1, Qn, Qx, rds, r1, q, kq.mono p1, fun x h' c d H' p r rx qx => kx x h' c d H' (p1.trans p) r rx qx⟩
/-- arity: the worth speaks of so many arguments alone -/
def Ar (n : Nat) (wf : WF) : Prop := ∀ ds h Q Qx, wf ds h Q Qx → ds.length = n
theorem de_call (F : FnD X.prog X.w X.K X.mg X.base k f fd ps wf) (ar : Ar ps.length wf) (hr : Room k X.A) (hg : Gl X x) (hm : X.mg x = some (.ref f)) (hk : PySem.W.keepIn X.K (.ref f) = true) (hb : Binds X.K fd ps [])
    (ha : DA X (e :: es) ws) (hdb : (x == ("__debug__" : Str)) = false := by decide) (he : starEach (e :: es) X.env = (false, eval e X.env) :: starEach es X.env := by rfl) (hpl : (backTo pos (starEach es X.env)).any (·.1) = false := by rfl) :
    DE X (.Call (.Name x p) (e :: es) [] pos) (wCall wf ws) :=
  ⟨fun W ck => (pe_callS F hr hg hm hk hb (fun σ => passAt ck.tk σ) (ha.ok W ck) hdb he hpl).imp fun σ H Q ⟨env, h, Qn, Qx, rs, rw_, q, kq, kx⟩ =>
    ⟨env, h, _, Qx, rs, rw_, q, fun ds h1 vs H1 p1 r1 rds q1 => spD_of (by rw [← rds.length]; exact ar _ _ _ _ q1) p1 rds r1 q1 kq kx, kx⟩⟩
/-- fields of an instance, by name -/
def fldQ (h : DH) (d : D) (m : Str) (k : D → Prop) : Prop := match d with
  | .ref a => match h a with
    | some (.ins C fs) => match fs.lookup m with
      | some v => k v
      | none => False
    | _ => False
  | _ => False
theorem fldQ.get {h : DH} {d : D} {m : Str} {k : D → Prop} (q : fldQ h d m k) : ∃ a C fs v, d = .ref a ∧ h a = some (.ins C fs) ∧ fs.lookup m = some v ∧ k v := by
  unfold fldQ at q
  split at q
  · rename_i a
    split at q
    · rename_i C fs e
      split at q
      · rename_i v e2; exact ⟨a, C, fs, v, rfl, e, e2, q⟩
      · exact q.elim
    · exact q.elim
  · exact q.elim
theorem look_rel {K : PySem.W.Frag} {H : Hp} {m : Str} : ∀ {fs : List (Str × D)} {vs : List (Str × V)}, vs.map (·.1) = fs.map (·.1) → RDs K H (fs.map (·.2)) (vs.map (·.2)) →
    (∀ d, fs.lookup m = some d → ∃ v, vs.lookup m = some v ∧ RD K H d v) ∧ (fs.lookup m = none → vs.lookup m = none)
  | [], [], _, _ => ⟨fun _ e => (nomatch e), fun _ => rfl⟩
  | [], _ :: _, e, _ => by cases e
  | _ :: _, [], e, _ => by cases e
  | (n, d) :: fs, (n', v) :: vs, e, r => by
    obtain ⟨e1, e2⟩ := List.cons.inj (show n' :: vs.map (·.1) = n :: fs.map (·.1) from e)
    subst e1
    cases r with
    | cons r1 r2 =>
      obtain ⟨i1, i2⟩ := look_rel (m := m) e2 r2
      by_cases q : m == n'
      · refine ⟨fun d' e' => ?_, fun e' => ?_⟩
        · simp only [List.lookup, q] at e' ⊢
          cases e'
          exact ⟨v, rfl, r1⟩
        · simp only [List.lookup, q] at e'; cases e'
      · have q' : (m == n') = false := by simpa using q
        refine ⟨fun d' e' => ?_, fun e' => ?_⟩
        · simp only [List.lookup, q'] at e' ⊢
          exact i1 d' e'
        · simp only [List.lookup, q'] at e' ⊢
          exact i2 e'
/-- e.f: which classes' instances may come (Cs), none of which holds f itself -/
def wFld (Cs : List Addr) (w : WE) (m : Str) : WE := fun env h Q Qx => w env h (fun d h1 => fldQ h1 d m (fun v => Q v h1) ∧ ∀ a C fs, d = .ref a → h1 a = some (.ins C fs) → C ∈ Cs) Qx
structure ClsD (K : PySem.W.Frag) (f : Str) (Cs : List Addr) : Prop where
  ok : ∀ C ∈ Cs, Cls K C ∧ NoAttr K C f
theorem ClsD.one {K : PySem.W.Frag} {f : Str} {C : Addr} (c : Cls K C) (n : NoAttr K C f) : ClsD K f [C] := ⟨fun C' hC => by rw [List.mem_singleton.mp hC]; exact ⟨c, n⟩⟩
theorem de_fld {Cs : List Addr} (he : DE X e wo) (c : ClsD X.K m Cs) (hb : attributeBase e m X.env (eval e X.env) = eval e X.env := by rfl) : DE X (.Attribute e m pos) (wFld Cs wo m) :=
  ⟨fun W ck => (pe_fld (he.ok W ck) hb).imp fun σ H Q ⟨env, h, Qn, Qx, rs, rw_, q, kq, kx⟩ =>
    ⟨env, h, _, Qx, rs, rw_, q, fun d h1 v H1 p1 r1 rd ⟨q1, q2⟩ => by
      obtain ⟨a, C, fs, z, rfl, e1, e2, q1⟩ := q1.get
      cases rd
      obtain ⟨dx, vs, hv, hn, rr⟩ := r1 _ _ e1
      obtain ⟨zv, hz, rz⟩ := (look_rel (m := m) hn rr).1 z e2
      obtain ⟨c1, c2⟩ := c.ok C (q2 a C fs rfl e1)
      exact ⟨a, C, dx, vs, zv, rfl, hv, c1, c2, hz, kq _ _ _ _ p1 r1 rz q1⟩, kx⟩⟩
/-- the receiver of a method: an instance of C without an attribute of that name -/
def insQ (h : DH) (d : D) (C : Addr) (m : Str) : Prop := ∃ a fs, d = .ref a ∧ h a = some (.ins C fs) ∧ fs.lookup m = none
def wMeth (C : Addr) (m : Str) (wf : WF) (wo : WE) (ws : WA) : WE := fun env h Q Qx => wo env h (fun d h1 => insQ h1 d C m ∧ ws env h1 (fun ds h2 => wf (d :: ds) h2 Q Qx) Qx) Qx
def tMethAt (C : Addr) (m : Str) (sp : Sp) (E : L2.St → XK) (ta : TE) (t : TA) : TE := fun σ H Q => ta σ H fun x H1 => ∃ a dx fs, x = .ref a ∧ H1 a = some (.ins C dx fs) ∧ fs.lookup m = none ∧
  t σ H1 fun vs H2 => sp (x :: vs) H2 Q (E σ)
theorem pe_methAt {CX : CXT} {sp : Sp} {E : L2.St → XK} {ta : TE} {t : TA} {pl : Sem Bool} (he : PE X o ta) (c : Cls X.K C) (hm : Meth X.K C m f) (F : FnOk X.prog X.w X.K X.mg X.base CX k f fd ps sp) (hr : Room k X.A) (hb : Binds X.K fd ps [])
    (hx : ∀ σ, PassesAt CX X σ (E σ)) (ha : PA X (e :: es) t) (hst : starEach (e :: es) X.env = (false, eval e X.env) :: starEach es X.env) (hpl : (backTo pos (starEach es X.env)).any (·.1) = false)
    (ht : eval (.Call (.Attribute o m apos) (e :: es) [] pos) X.env = (do
      let ov ← eval o X.env; standAt apos.atName; let (f, first) ← holding [ov] (getMethod ov m pl)
      callWith pos f first (backTo pos (starEach (e :: es) X.env)) (backToKw pos (keywordEach [] X.env)))) :
    PE X (.Call (.Attribute o m apos) (e :: es) [] pos) (tMethAt C m sp E ta t) := ⟨fun pins s σ H Q I h => by
  refine PySem.W.methodCall_KW (pl := pl) (thn (he.run pins s σ H _ I h) fun u s1 hh => ?_) ht
  obtain ⟨x, H1, I1, rx, a, dx, fs, ex, ea, l, q⟩ := hh
  subst ex
  cases (show u = Value.ref a from rx)
  refine getmeth_ok I1 ea c hm l (PySem.W.callWith_K (first := [.ref a]) (h₀ := X.base) I.ok.mod.kin hm.kp (thn (ha.run pos pins s1 σ H1 _ I1 q) fun us s2 h2 => ?_) hst hpl)
  obtain ⟨vs, H2, I2, r, q2⟩ := h2
  refine ⟨I2.kIn, run_fnS (us := .ref a :: us) (vs := .ref a :: vs) F hr hb (hx σ) I2 (.cons rfl r) q2⟩⟩
theorem pe_methAt0 {CX : CXT} {sp : Sp} {E : L2.St → XK} {ta : TE} {pl : Sem Bool} (he : PE X o ta) (c : Cls X.K C) (hm : Meth X.K C m f) (F : FnOk X.prog X.w X.K X.mg X.base CX k f fd ps sp) (hr : Room k X.A) (hb : Binds X.K fd ps [])
    (hx : ∀ σ, PassesAt CX X σ (E σ))
    (ht : eval (.Call (.Attribute o m apos) [] [] pos) X.env = (do
      let ov ← eval o X.env; standAt apos.atName; let (f, first) ← holding [ov] (getMethod ov m pl)
      callWith pos f first (backTo pos (starEach [] X.env)) (backToKw pos (keywordEach [] X.env)))) :
    PE X (.Call (.Attribute o m apos) [] [] pos) (tMethAt C m sp E ta tNil) := ⟨fun pins s σ H Q I h => by
  refine PySem.W.methodCall_KW (pl := pl) (thn (he.run pins s σ H _ I h) fun u s1 hh => ?_) ht
  obtain ⟨x, H1, I1, rx, a, dx, fs, ex, ea, l, q⟩ := hh
  subst ex
  cases (show u = Value.ref a from rx)
  refine getmeth_ok I1 ea c hm l (PySem.W.callWith_K0 (first := [.ref a]) I1.kIn hm.kp ?_)
  exact run_fnS (us := [.ref a]) (vs := [.ref a]) F hr hb (hx σ) I1 (.cons rfl .nil) q⟩
theorem meth_ok {W : WX} {n : Nat} {ta : TE} {t : TA} {σ : L2.St} {H : Hp} {Q : VK} (ar : Ar n wf) (h : tE X.K W (wMeth C m wf wo ws) σ H Q) (h1 : ta = tE X.K W wo) (h2 : t = tA X.K W ws) : tMethAt C m (spD X.K n wf) (L2.WE W) ta t σ H Q := by
  obtain ⟨env, h, Qn, Qx, rs, rw_, q, kq, kx⟩ := h
  subst h1 h2
  refine ⟨env, h, _, Qx, rs, rw_, q, fun d h1 v H1 p1 r1 rd ⟨⟨a, fs, ed, e1, e2⟩, q1⟩ => ?_, kx⟩
  subst ed
  cases rd
  obtain ⟨dx, vs, hv, hn, rr⟩ := r1 _ _ e1
  exact ⟨a, dx, vs, rfl, hv, (look_rel (m := m) hn rr).2 e2, env, h1, _, Qx, rs.mono p1, r1, q1, fun ds h2 us H2 p2 r2 rds q2 =>
    spD_of (ds := .ref a :: ds) (vs := .ref a :: us) (by rw [List.length_cons, ← rds.length]; exact ar _ _ _ _ q2) (p1.trans p2) (.cons (.ref a) rds) r2 q2 kq kx, kx.mono p1⟩
theorem de_meth {pl : Sem Bool} (he : DE X o wo) (c : Cls X.K C) (hm : Meth X.K C m f) (F : FnD X.prog X.w X.K X.mg X.base k f fd ps wf) (ar : Ar ps.length wf) (hr : Room k X.A) (hb : Binds X.K fd ps []) (ha : DA X (e :: es) ws)
    (hst : starEach (e :: es) X.env = (false, eval e X.env) :: starEach es X.env := by rfl) (hpl : (backTo pos (starEach es X.env)).any (·.1) = false := by rfl)
    (ht : eval (.Call (.Attribute o m apos) (e :: es) [] pos) X.env = (do
      let ov ← eval o X.env; standAt apos.atName; let (f, first) ← holding [ov] (getMethod ov m pl)
      callWith pos f first (backTo pos (starEach (e :: es) X.env)) (backToKw pos (keywordEach [] X.env))) := by rfl) :
    DE X (.Call (.Attribute o m apos) (e :: es) [] pos) (wMeth C m wf wo ws) :=
  ⟨fun W ck => (pe_methAt (pl := pl) (he.ok W ck) c hm F hr hb (fun σ => passAt ck.tk σ) (ha.ok W ck) hst hpl ht).imp fun σ H Q h => meth_ok ar h rfl rfl⟩
theorem da_nil' {W : WX} (ck : Cok X W) : PA X [] (tA X.K W wNil) := da_nil.ok W ck
theorem de_meth0 {pl : Sem Bool} (he : DE X o wo) (c : Cls X.K C) (hm : Meth X.K C m f) (F : FnD X.prog X.w X.K X.mg X.base k f fd ps wf) (ar : Ar ps.length wf) (hr : Room k X.A) (hb : Binds X.K fd ps [])
    (ht : eval (.Call (.Attribute o m apos) [] [] pos) X.env = (do
      let ov ← eval o X.env; standAt apos.atName; let (f, first) ← holding [ov] (getMethod ov m pl)
      callWith pos f first (backTo pos (starEach [] X.env)) (backToKw pos (keywordEach [] X.env))) := by rfl) :
    DE X (.Call (.Attribute o m apos) [] [] pos) (wMeth C m wf wo wNil) :=
  ⟨fun W ck => (pe_methAt0 (pl := pl) (he.ok W ck) c hm F hr hb (fun σ => passAt ck.tk σ) ht).imp fun σ H Q ⟨env, h, Qn, Qx, rs, rw_, q, kq, kx⟩ => by
    refine ⟨env, h, _, Qx, rs, rw_, q, fun d h1 v H1 p1 r1 rd ⟨⟨a, fs, ed, e1, e2⟩, q1⟩ => ?_, kx⟩
    subst ed
    cases rd
    obtain ⟨dx, vs, hv, hn, rr⟩ := r1 _ _ e1
    exact ⟨a, dx, vs, rfl, hv, (look_rel (m := m) hn rr).2 e2, spD_of (ds := [.ref a]) (vs := [.ref a]) (by have z := ar _ _ _ _ q1; exact z) p1 (.cons (.ref a) .nil) r1 q1 kq kx⟩⟩
/-- C(..): a new instance, then its __init__ -/
def wMake (C : Addr) (wf : WF) (ws : WA) : WE := fun env h Q Qx => ws env h (fun ds h1 => ∀ p, h1 p = none → wf (.ref p :: ds) (dup h1 p (.ins C [])) (fun v h2 => v = .non ∧ Q (.ref p) h2) Qx) Qx
def tMakeAt (C : Addr) (sp : Sp) (E : L2.St → XK) (t : TA) : TE := fun σ H Q => t σ H fun vs H1 => ∀ x dx, H1 x = none → H1 dx = none → dx ≠ x →
  sp (.ref x :: vs) (upd (upd H1 dx (.own x)) x (.ins C dx [])) (fun v H2 => v = .non ∧ Q (.ref x) H2) (E σ)
theorem pe_makeAt {CX : CXT} {sp : Sp} {E : L2.St → XK} {t : TA} (M : Mk X.K C f) (F : FnOk X.prog X.w X.K X.mg X.base CX k f fd ps sp) (hr : Room (k + 1) X.A) (hg : Gl X x) (hm : X.mg x = some (.ref C)) (hb : Binds X.K fd ps [])
    (hx : ∀ (pins : List (Addr × Obj)) (σ : L2.St) (H H' : Hp) (s s' : Shared) (e : Value) (s'' : Shared), Inv X pins σ H s → Inv X pins σ H' s' → CX X.stack H' s' (E σ) e s'' → X.xe e s'')
    (ha : PA X (e :: es) t) (hdb : (x == ("__debug__" : Str)) = false) (he : starEach (e :: es) X.env = (false, eval e X.env) :: starEach es X.env) (hpl : (backTo pos (starEach es X.env)).any (·.1) = false) :
    PE X (.Call (.Name x p) (e :: es) [] pos) (tMakeAt C sp E t) := ⟨fun pins s σ H Q I h => by
  refine wpAny_Call_Name_kw (ld_glob I hg hm ?_ hdb)
  refine PySem.W.callWith_K (h₀ := X.base) I.ok.mod.kin M.kp (thn (ha.run pos pins s σ H _ I h) fun us s1 hh => ?_) he hpl
  obtain ⟨vs, H1, I1, r, q⟩ := hh
  refine ⟨I1.kIn, ?_⟩
  have hq := q (s1.heap.objs.size + 1) s1.heap.objs.size (I1.hok.fresh (Nat.le_succ _)) (I1.hok.fresh (Nat.le_refl _)) (Nat.ne_of_lt (Nat.lt_succ_self _))
  have I2 := Inv.made (C := C) I1
  have r2 : Vals (V.ref (s1.heap.objs.size + 1) :: vs) (Value.ref (s1.heap.objs.size + 1) :: us) := .cons rfl r
  have hl : (Value.ref (s1.heap.objs.size + 1) :: us ++ []).length = ps.length := by
    rw [List.append_nil, ← r2.length]
    exact F.len _ _ _ _ hq
  have hbb := hb _ (Value.ref (s1.heap.objs.size + 1) :: us) I2.kIn hl
  rw [List.append_nil] at hbb
  refine wpAny_call (make_map (f := f) I1.kIn M.makes M.init (beq_iff_eq.mp M.fn) (codeAny_mono (F.run _ X.stack _ _ ⟨Value.ref (s1.heap.objs.size + 1) :: us, []⟩ _ _ _ (E σ) (hr.make C us [])
    (I2.env0.make C us []) hbb r2 hq) fun r s' hq' => ?_))
  cases r with
  | error e => exact hx pins σ _ _ _ _ e s' I1 I2 hq'
  | ok fl =>
    cases fl with
    | ret u =>
      obtain ⟨v, H', I3, rv, ev, q3⟩ := I2.after hq'
      subst ev
      exact ⟨rv, ⟨V.ref (s1.heap.objs.size + 1), H', I3, rfl, q3⟩⟩
    | next => exact hq'.elim
    | brk => exact hq'.elim
    | cont => exact hq'.elim⟩
theorem Pe.made {H : Hp} {x dx : Addr} (hx : H x = none) (hd : H dx = none) (ne : dx ≠ x) : Pe H (upd (upd H dx (.own x)) x (.ins C dx [])) :=
  (Pe.new hd).trans (Pe.new (by rw [upd_ne ne.symm]; exact hx))
theorem RW.made {K : PySem.W.Frag} {h : DH} {H : Hp} (r : RW K h H) {x dx : Addr} (hx : H x = none) (hd : H dx = none) (ne : dx ≠ x) : RW K (dup h x (.ins C [])) (upd (upd H dx (.own x)) x (.ins C dx [])) :=
  (r.beside (u := .own x) hd).new (by rw [upd_ne ne.symm]; exact hx) (show RO K _ x (.ins C []) from ⟨dx, [], upd_same, rfl, .nil⟩)
theorem de_make (M : Mk X.K C f) (F : FnD X.prog X.w X.K X.mg X.base k f fd ps wf) (ar : Ar ps.length wf) (hr : Room (k + 1) X.A) (hg : Gl X x) (hm : X.mg x = some (.ref C)) (hb : Binds X.K fd ps [])
    (ha : DA X (e :: es) ws) (hdb : (x == ("__debug__" : Str)) = false := by decide) (he : starEach (e :: es) X.env = (false, eval e X.env) :: starEach es X.env := by rfl) (hpl : (backTo pos (starEach es X.env)).any (·.1) = false := by rfl) :
    DE X (.Call (.Name x p) (e :: es) [] pos) (wMake C wf ws) :=
  ⟨fun W ck => (pe_makeAt M F hr hg hm hb (E := L2.WE W) (fun pins σ H H' s s' e s'' _ I2 c => passAt ck.tk σ pins H' s' e s'' I2 c) (ha.ok W ck) hdb he hpl).imp fun σ H Q ⟨env, h, Qn, Qx, rs, rw_, q, kq, kx⟩ =>
    ⟨env, h, _, Qx, rs, rw_, q, fun ds h1 vs H1 p1 r1 rds q1 x dx hx hd ne => by
      have q2 := q1 x (r1.fresh hx)
      refine ⟨?_, .ref x :: ds, _, _, Qx, .cons (.ref x) (rds.mono (Pe.made hx hd ne)), r1.made hx hd ne, q2, fun d h' v H' p r rd ⟨e, q3⟩ => ?_, fun x h' c d H' p r rx qx => kx x h' c d H' ((p1.trans (Pe.made hx hd ne)).trans p) r rx qx⟩
      · rw [List.length_cons, ← rds.length]; exact ar _ _ _ _ q2
      · subst e
        exact ⟨rd.non_inv, kq _ _ _ _ ((p1.trans (Pe.made hx hd ne)).trans p) r (.ref x) q3⟩, kx⟩⟩
end
/-! ### methods of lists -/
section
variable {X : Cx} {o e : Expr} {es : List Expr} {wo : WE} {ws : WA} {apos cpos : Pos}
def lstQ (h : DH) (d : D) (k : Addr → List D → Prop) : Prop := match d with
  | .ref a => match h a with
    | some (.lst xs) => k a xs
    | _ => False
  | _ => False
theorem lstQ.get {h : DH} {d : D} {k : Addr → List D → Prop} (q : lstQ h d k) : ∃ a xs, d = .ref a ∧ h a = some (.lst xs) ∧ k a xs := by
  unfold lstQ at q
  split at q
  · rename_i a
    split at q
    · rename_i xs e; exact ⟨a, xs, rfl, e, q⟩
    · exact q.elim
  · exact q.elim
def wAppend (wo : WE) (ws : WA) : WE := fun env h Q Qx => wo env h (fun d h1 => lstQ h1 d (fun _ _ => True) ∧ ws env h1 (fun ds h2 => One (fun x => lstQ h2 d fun a xs => xs.length < sizeLine ∧ Q .non (dup h2 a (.lst (xs ++ [x])))) ds) Qx) Qx
theorem de_append (ho : DE X o wo) (ha : DA X (e :: es) ws) (hbase : attributeBase o "append" X.env (eval o X.env) = eval o X.env := by rfl)
    (hfew : ((backTo cpos (starEach (e :: es) X.env)).all (fun x => !x.1) && (backToKw cpos (keywordEach [] X.env)).all (fun x => x.1.isSome) && decide ((e :: es).length + ([] : List Keyword).length + (if ([] : List Keyword).isEmpty then 0 else 1) < 30)) = true := by rfl)
    (hline : (apos.endLine == cpos.line) = true := by rfl) (hs : starEach (e :: es) X.env = (false, eval e X.env) :: starEach es X.env := by rfl) (hpl : (backTo cpos (starEach es X.env)).any (·.1) = false := by rfl) :
    DE X (.Call (.Attribute o "append" apos) (e :: es) [] cpos) (wAppend wo ws) :=
  ⟨fun W ck => (pe_bm PySem.F.plainAttrs_list PySem.F.slot_list_append PySem.F.type_list_append mt_append (ho.ok W ck) (ha.ok W ck) hbase hfew hline hs hpl).imp fun σ H Q ⟨env, h, Qn, Qx, rs, rw_, q, kq, kx⟩ =>
    ⟨env, h, _, Qx, rs, rw_, q, fun d h1 v H1 p1 r1 rd ⟨q0, q1⟩ => by
      obtain ⟨a, xs, rfl, e1, _⟩ := q0.get
      cases rd
      obtain ⟨vs, hv, rr⟩ := r1 _ _ e1
      refine ⟨.inl ⟨rfl, _, SqL.of hv⟩, env, h1, _, Qx, rs.mono p1, r1, q1, fun ds h2 us H2 p2 r2 rds q2 => ?_, kx.mono p1⟩
      obtain ⟨y, yv, rfl, rfl, ry, q2⟩ := one_inv rds q2
      obtain ⟨a', ys, ea, e2, hz, q3⟩ := q2.get
      cases ea
      obtain ⟨vs2, hv2, rr2⟩ := r2 _ _ e2
      have w : Wr (H2 a) := by rw [hv2]; exact True.intro
      have pw : Pe H2 (upd H2 a (.lst (vs2 ++ [yv]))) := Pe.wr w
      exact ⟨a, vs2, yv, rfl, rfl, hv2, by rw [← rr2.length]; exact hz, kq _ _ _ _ ((p1.trans p2).trans pw) (r2.set w (show RO X.K _ a (.lst (ys ++ [y])) from ⟨_, upd_same, (rr2.append (.cons ry .nil)).mono pw⟩)) .non q3⟩, kx⟩⟩
def wPop (wo : WE) : WE := fun env h Q Qx => wo env h (fun d h1 => lstQ h1 d fun a xs => QAt (dup h1 a (.lst xs.dropLast)) Q xs[xs.length - 1]?) Qx
theorem de_pop (ho : DE X o wo) (hbase : attributeBase o "pop" X.env (eval o X.env) = eval o X.env := by rfl) (hline : (apos.endLine == cpos.line) = true := by rfl) : DE X (.Call (.Attribute o "pop" apos) [] [] cpos) (wPop wo) :=
  ⟨fun W ck => (pe_bm0 PySem.F.plainAttrs_list PySem.F.slot_list_pop PySem.F.type_list_pop mt_pop (ho.ok W ck) hbase hline).imp fun σ H Q ⟨env, h, Qn, Qx, rs, rw_, q, kq, kx⟩ =>
    ⟨env, h, _, Qx, rs, rw_, q, fun d h1 v H1 p1 r1 rd q1 => by
      obtain ⟨a, xs, rfl, e1, q1⟩ := q1.get
      obtain ⟨y, ey, q1⟩ := q1.get
      cases rd
      obtain ⟨vs, hv, rr⟩ := r1 _ _ e1
      obtain ⟨yv, hy, ry⟩ := rr.get ey
      have w : Wr (H1 a) := by rw [hv]; exact True.intro
      have pw : Pe H1 (upd H1 a (.lst vs.dropLast)) := Pe.wr w
      exact ⟨.inl ⟨rfl, _, SqL.of hv⟩, a, vs, yv, rfl, rfl, hv, by rw [← rr.length]; exact hy, kq _ _ _ _ (p1.trans pw) (r1.set w (show RO X.K _ a (.lst xs.dropLast) from ⟨_, upd_same, rr.dropLast.mono pw⟩)) (ry.mono pw) q1⟩, kx⟩⟩
end
end DL
namespace DL
open PySem PySem.Spec PyProof.Rows L2
/-! ### statements -/
section
variable {X : Cx} {st : Stmt} {rest body : List Stmt} {e o value c : Expr} {we wo : WE} {wt : WT} {w1 w2 : WS} {pos pos' : Pos} {x : Str}
def wNext : WS := fun E env h => E.nx env h
def wSeq (w1 w2 : WS) : WS := fun E env h => w1 { E with nx := fun e h' => w2 E e h' } env h
theorem dss_nil : DSs X [] wNext := ⟨fun W ck => pss_nil.imp fun D σ H ⟨E, env, h, rs, rw_, q, ks⟩ => ks.nx env h σ H (.refl H) rs rw_ q⟩
theorem dss_cons (h1 : DS X st w1) (h2 : DSs X rest w2) : DSs X (st :: rest) (wSeq w1 w2) := ⟨fun W ck => (pss_cons (h1.ok W ck) (h2.ok W ck)).imp fun D σ H ⟨E, env, h, rs, rw_, q, ks⟩ =>
  ⟨_, env, h, rs, rw_, q, ⟨fun e' h' s' H' p r1 r2 q' => ⟨E, e', h', r1, r2, q', ks.mono p⟩, ks.rt, ks.bk, ks.ct, ks.rx⟩⟩⟩
theorem dss_one (h1 : DS X st w1) : DSs X [st] w1 := ⟨fun W ck => pss_one (h1.ok W ck)⟩
def wPass : WS := fun E env h => E.nx env h
def wBrk : WS := fun E env h => E.bk env h
def wCnt : WS := fun E env h => E.ct env h
theorem ds_pass : DS X (.Pass pos) wPass := ⟨fun W ck => ps_pass.imp fun D σ H ⟨E, env, h, rs, rw_, q, ks⟩ => ks.nx env h σ H (.refl H) rs rw_ q⟩
theorem ds_break : DS X (.Break pos) wBrk := ⟨fun W ck => ps_break.imp fun D σ H ⟨E, env, h, rs, rw_, q, ks⟩ => ks.bk env h σ H (.refl H) rs rw_ q⟩
theorem ds_continue : DS X (.Continue pos) wCnt := ⟨fun W ck => ps_continue.imp fun D σ H ⟨E, env, h, rs, rw_, q, ks⟩ => ks.ct env h σ H (.refl H) rs rw_ q⟩
theorem KS.kx {K : PySem.W.Frag} {H : Hp} {E : En} {D : Ends} {W : WX} {env : Ev} {σ : L2.St} (k : KS K H E D W) (rs : RS K H env σ) : KX K H (fun x h' => E.rx x env h') W σ :=
  fun x h' c d H' p r rx q => k.rx x env h' σ c d H' p (rs.mono p) r rx q
def wExpr (we : WE) : WS := fun E env h => we env h (fun _ h1 => E.nx env h1) (fun x h1 => E.rx x env h1)
theorem ds_expr (he : DE X e we) (hs : swapsWith e none pos.line X.env = pure false := by rfl) : DS X (.Expr e pos) (wExpr we) := ⟨fun W ck => (ps_expr (he.ok W ck) hs).imp fun D σ H ⟨E, env, h, rs, rw_, q, ks⟩ =>
  ⟨env, h, _, _, rs, rw_, q, fun d h1 v H1 p1 r1 rd q1 => ks.nx env h1 σ H1 p1 (rs.mono p1) r1 q1, ks.kx rs⟩⟩
def wRet (we : WE) : WS := fun E env h => we env h E.rt (fun x h1 => E.rx x env h1)
theorem ds_ret (he : DE X e we) : DS X (.Return (some e) pos) (wRet we) := ⟨fun W ck => (ps_ret (he.ok W ck)).imp fun D σ H ⟨E, env, h, rs, rw_, q, ks⟩ => ⟨env, h, _, _, rs, rw_, q, ks.rt, ks.kx rs⟩⟩
def wRetN : WS := fun E env h => E.rt .non h
theorem ds_retN : DS X (.Return none pos) wRetN := ⟨fun W ck => ps_retN.imp fun D σ H ⟨E, env, h, rs, rw_, q, ks⟩ => ks.rt .non h .non H (.refl H) rw_ .non q⟩
def wIfS (wt : WT) (w1 w2 : WS) : WS := fun E env h => wt env h (fun b h1 => if b = true then w1 E env h1 else w2 E env h1) (fun x h1 => E.rx x env h1)
theorem ds_if {s1 s2 : List Stmt} (hc : DT X c wt) (h1 : DSs X s1 w1) (h2 : DSs X s2 w2) : DS X (.If c s1 s2 pos) (wIfS wt w1 w2) := ⟨fun W ck => (ps_if (hc.ok W ck) (h1.ok W ck) (h2.ok W ck)).imp fun D σ H ⟨E, env, h, rs, rw_, q, ks⟩ =>
  ⟨env, h, _, _, rs, rw_, q, fun b h' H' p r q' => by
    cases b with
    | true =>
      rw [if_pos rfl] at q' ⊢
      exact ⟨E, env, h', rs.mono p, r, q', ks.mono p⟩
    | false =>
      rw [if_neg Bool.false_ne_true] at q' ⊢
      exact ⟨E, env, h', rs.mono p, r, q', ks.mono p⟩, ks.kx rs⟩⟩
/-! ### targets -/
abbrev WG := D → Ev → DH → (Ev → DH → Prop) → Prop
abbrev WGs := List D → Ev → DH → (Ev → DH → Prop) → Prop
def KN (K : PySem.W.Frag) (H : Hp) (Qn : Ev → DH → Prop) (Q : L2.St → Hp → Prop) : Prop := ∀ e h s H', Pe H H' → RS K H' e s → RW K h H' → Qn e h → Q s H'
theorem KN.mono {K : PySem.W.Frag} {H H1 : Hp} {Qn : Ev → DH → Prop} {Q : L2.St → Hp → Prop} (k : KN K H Qn Q) (p : Pe H H1) : KN K H1 Qn Q := fun e h s H' q => k e h s H' (p.trans q)
def tG (K : PySem.W.Frag) (g : WG) : TG := fun v σ H Q => ∃ d env h Qn, RD K H d v ∧ RS K H env σ ∧ RW K h H ∧ g d env h Qn ∧ KN K H Qn Q
def tGs (K : PySem.W.Frag) (g : WGs) : TGs := fun vs σ H Q => ∃ ds env h Qn, RDs K H ds vs ∧ RS K H env σ ∧ RW K h H ∧ g ds env h Qn ∧ KN K H Qn Q
structure DG (X : Cx) (t : Expr) (g : WG) : Prop where
  ok : ∀ W, Cok X W → PG X t (tG X.K g)
structure DGs (X : Cx) (ts : List Expr) (g : WGs) : Prop where
  ok : ∀ W, Cok X W → PGs X ts (tGs X.K g)
theorem _root_.L2.PG.imp {X : Cx} {e : Expr} {t t' : TG} (p : PG X e t) (h : ∀ v σ H Q, t' v σ H Q → t v σ H Q) : PG X e t' := ⟨fun pins s σ H v u Q I r q => p.run pins s σ H v u Q I r (h v σ H Q q)⟩
theorem _root_.L2.PGs.imp {X : Cx} {e : List Expr} {t t' : TGs} (p : PGs X e t) (h : ∀ v σ H Q, t' v σ H Q → t v σ H Q) : PGs X e t' := ⟨fun pins s σ H v u Q I r q => p.run pins s σ H v u Q I r (h v σ H Q q)⟩
def gN (i : Nat) : WG := fun d env h Q => Q (env.set i (some d)) h
theorem dg_name {i : Nat} (hN : X.N.Nodup) (hi : X.N[i]? = some x := by rfl) (hx : Loc X.env.scope x := by first | exact Or.inl rfl | exact Or.inr rfl) (hf : X.fn x = true ∨ X.env.scope.names.lookup x = some .local := by first | exact .inl rfl | exact .inr rfl) : DG X (.Name x pos) (gN i) :=
  ⟨fun W ck => (pg_name hN hi hx hf).imp fun v σ H Q ⟨d, env, h, Qn, rd, rs, rw_, q, kn⟩ => kn _ h _ H (.refl H) (rs.set i rd) rw_ q⟩
def gNl : WGs := fun ds env h Q => ds = [] ∧ Q env h
def gCn (g : WG) (gs : WGs) : WGs := fun ds env h Q => match ds with
  | d :: ds => g d env h fun e1 h1 => gs ds e1 h1 Q
  | [] => False
theorem dgs_nil : DGs X [] gNl := ⟨fun W ck => pgs_nil.imp fun v σ H Q ⟨ds, env, h, Qn, rd, rs, rw_, ⟨e, q⟩, kn⟩ => by
  subst e; cases rd; exact ⟨rfl, kn env h σ H (.refl H) rs rw_ q⟩⟩
theorem dgs_cons {t : Expr} {ts : List Expr} {g : WG} {gs : WGs} (h1 : DG X t g) (h2 : DGs X ts gs) (hs : (assignEach (t :: ts) X.env).map (·.2) = assign t X.env :: (assignEach ts X.env).map (·.2) := by rfl) : DGs X (t :: ts) (gCn g gs) :=
  ⟨fun W ck => (pgs_cons (h1.ok W ck) (h2.ok W ck) hs).imp fun v σ H Q ⟨ds, env, h, Qn, rds, rs, rw_, q, kn⟩ => by
    cases rds with
    | nil => exact q.elim
    | cons rd r => exact ⟨_, _, rfl, _, env, h, _, rd, rs, rw_, q, fun e1 h1 s1 H1 p1 r1 w1 q1 => ⟨_, e1, h1, Qn, r.mono p1, r1, w1, q1, kn.mono p1⟩⟩⟩
def gT (n : Nat) (gs : WGs) : WG := fun d env h Q => match d with
  | .tup ds => ds.length = n ∧ gs ds env h Q
  | .otup ds => ds.length = n ∧ gs ds env h Q
  | _ => False
theorem RD.otup_inv {K : PySem.W.Frag} {H : Hp} {ds : List D} {v : V} (r : RD K H (.otup ds) v) : ∃ a vs, v = .ref a ∧ SqT K H a vs ∧ RDs K H ds vs := by
  cases r with
  | otup t r => exact ⟨_, _, rfl, SqT.of t, r⟩
theorem dg_tup {es : List Expr} {k n : Nat} {gs : WGs} (h : DGs X es gs) (hc : X.calm = true := by rfl) (hn : (assignEach es X.env).length = n := by rfl) (hst : (assignEach es X.env).findIdx? (·.1) = none := by rfl) : DG X (.Tuple es k pos) (gT n gs) :=
  ⟨fun W ck => (pg_tup hc (h.ok W ck) hn hst).imp fun v σ H Q ⟨d, env, h, Qn, rd, rs, rw_, q, kn⟩ => by
    cases d <;> try exact q.elim
    · obtain ⟨a, vs, rfl, t, r⟩ := rd.tup_inv
      exact ⟨a, vs, rfl, t.sqT, by rw [← r.length]; exact q.1, _, env, h, Qn, r, rs, rw_, q.2, kn⟩
    · obtain ⟨a, vs, rfl, t, r⟩ := rd.otup_inv
      exact ⟨a, vs, rfl, t, by rw [← r.length]; exact q.1, _, env, h, Qn, r, rs, rw_, q.2, kn⟩⟩
def ixQ (n : Nat) (d : D) (k : Nat → Prop) : Prop := match d with
  | .int z => match ixN n z with
    | some j => k j
    | none => False
  | _ => False
theorem ixQ.get {n : Nat} {d : D} {k : Nat → Prop} (q : ixQ n d k) : ∃ z j, d = .int z ∧ ixN n z = some j ∧ k j := by
  unfold ixQ at q
  split at q
  · rename_i z
    split at q
    · rename_i j e; exact ⟨z, j, rfl, e, q⟩
    · exact q.elim
  · exact q.elim
def gSub (wo wi : WE) : WG := fun d env h Q => wo env h (fun o h1 => wi env h1 (fun i h2 => lstQ h2 o fun a xs => ixQ xs.length i fun j => Q env (dup h2 a (.lst (xs.set j d)))) fun _ _ => False) fun _ _ => False
theorem noX {K : PySem.W.Frag} {H : Hp} {W : WX} {σ : L2.St} : KX K H (fun _ _ => False) W σ := fun _ _ _ _ _ _ _ _ q => q.elim
theorem dg_sub {i : Expr} {wi : WE} (ho : DE X o wo) (hi : DE X i wi)
    (ha : ∀ v, assign (.Subscript o i pos) X.env v = (do
      let ov ← holding [v] (eval o X.env); let iv ← holding [v, ov] (eval i X.env); standAt pos; holding [v, ov, iv] (setItem ov iv v)
      release [v, ov, iv] []) := by intro _; rfl) : DG X (.Subscript o i pos) (gSub wo wi) :=
  ⟨fun W ck => (pg_sub (ho.ok W ck) (hi.ok W ck) set_list ha).imp fun v σ H Q ⟨d, env, h, Qn, rd, rs, rw_, q, kn⟩ =>
    ⟨env, h, _, _, rs, rw_, q, fun od h1 ov H1 p1 r1 ro q1 => ⟨env, h1, _, _, rs.mono p1, r1, q1, fun idd h2 iv H2 p2 r2 ri q2 => by
      obtain ⟨a, xs, rfl, e1, q3⟩ := q2.get
      cases ro
      obtain ⟨z, j, rfl, ej, q3⟩ := q3.get
      cases ri
      obtain ⟨vs, hv, rr⟩ := r2 _ _ e1
      have w : Wr (H2 a) := by rw [hv]; exact True.intro
      have pw : Pe H2 (upd H2 a (.lst (vs.set j v))) := Pe.wr w
      have p := (p1.trans p2).trans pw
      exact ⟨a, vs, _, j, rfl, rfl, hv, by rw [← rr.length]; exact ej, kn env _ σ _ p (rs.mono p) (r2.set w (show RO X.K _ a (.lst (xs.set j d)) from ⟨_, upd_same, (rr.set (rd.mono (p1.trans p2)) j).mono pw⟩)) q3⟩, noX⟩, noX⟩⟩
def wAsg (we : WE) (g : WG) : WS := fun E env h => we env h (fun d h1 => g d env h1 E.nx) (fun x h1 => E.rx x env h1)
theorem ds_asg {tg : Expr} {g : WG} (he : DE X e we) (hg : DG X tg g) (hs : swapsWithSole [tg] e pos.line X.env = pure false := by rfl) (hw : swappedStores [tg] e X.env = pure none := by rfl)
    (h1 : (assignEach [tg] X.env).map (·.2) = [assign tg X.env] := by rfl) : DS X (.Assign [tg] e pos) (wAsg we g) :=
  ⟨fun W ck => (ps_asg (he.ok W ck) (hg.ok W ck) hs hw h1).imp fun D σ H ⟨E, env, h, rs, rw_, q, ks⟩ =>
    ⟨env, h, _, _, rs, rw_, q, fun d h1 v H1 p1 r1 rd q1 => ⟨d, env, h1, E.nx, rd, rs.mono p1, r1, q1, fun e' h' s' H' p r1 r2 q' => ks.nx e' h' s' H' (p1.trans p) r1 r2 q'⟩, ks.kx rs⟩⟩
def wSet (i : Nat) (we : WE) : WS := fun E env h => we env h (fun d h1 => E.nx (env.set i (some d)) h1) (fun x h1 => E.rx x env h1)
theorem ds_set {i : Nat} (hN : X.N.Nodup) (he : DE X e we) (hi : X.N[i]? = some x := by rfl) (hx : Loc X.env.scope x := by first | exact Or.inl rfl | exact Or.inr rfl) (hs : swapsWith e (some (.Name x pos')) pos.line X.env = pure false := by rfl)
    (hf : X.fn x = true ∨ X.env.scope.names.lookup x = some .local := by first | exact .inl rfl | exact .inr rfl) : DS X (.Assign [.Name x pos'] e pos) (wSet i we) :=
  ⟨fun W ck => (ps_set hN hi hx (he.ok W ck) hs hf).imp fun D σ H ⟨E, env, h, rs, rw_, q, ks⟩ =>
    ⟨env, h, _, _, rs, rw_, q, fun d h1 v H1 p1 r1 rd q1 => ks.nx _ h1 _ H1 p1 ((rs.mono p1).set i rd) r1 q1, ks.kx rs⟩⟩
/-- o.f = e -/
def putD (f : Str) (d : D) : List (Str × D) → List (Str × D)
  | [] => [(f, d)]
  | (g, y) :: r => if g = f then (g, d) :: r else (g, y) :: putD f d r
theorem put_rel {K : PySem.W.Frag} {H : Hp} {f : Str} {d : D} {v : V} (rd : RD K H d v) : ∀ {fs : List (Str × D)} {vs : List (Str × V)}, vs.map (·.1) = fs.map (·.1) → RDs K H (fs.map (·.2)) (vs.map (·.2)) →
    (putF f v vs).map (·.1) = (putD f d fs).map (·.1) ∧ RDs K H ((putD f d fs).map (·.2)) ((putF f v vs).map (·.2))
  | [], [], _, _ => ⟨rfl, .cons rd .nil⟩
  | [], _ :: _, e, _ => by cases e
  | _ :: _, [], e, _ => by cases e
  | (n, y) :: fs, (n', z) :: vs, e, r => by
    obtain ⟨e1, e2⟩ := List.cons.inj (show n' :: vs.map (·.1) = n :: fs.map (·.1) from e)
    subst e1
    cases r with
    | cons r1 r2 =>
      obtain ⟨i1, i2⟩ := put_rel (f := f) rd e2 r2
      unfold putF putD
      by_cases q : n' = f
      · rw [if_pos q, if_pos q]
        exact ⟨by simpa using e2, .cons rd r2⟩
      · rw [if_neg q, if_neg q]
        exact ⟨by simpa using i1, .cons r1 i2⟩
def wFldS (Cs : List Addr) (wo we : WE) (m : Str) : WS := fun E env h => we env h (fun d h1 => wo env h1 (fun o h2 => ∃ a C fs, o = .ref a ∧ h2 a = some (.ins C fs) ∧ C ∈ Cs ∧ fs.length < 1000 ∧ E.nx env (dup h2 a (.ins C (putD m d fs)))) (fun x h1 => E.rx x env h1)) (fun x h1 => E.rx x env h1)
theorem ds_fld {m : Str} {Cs : List Addr} (ho : DE X o wo) (he : DE X value we) (c : ClsD X.K m Cs) (hs : swapsWith value (some (.Attribute o m pos')) pos.line X.env = pure false := by rfl) : DS X (.Assign [.Attribute o m pos'] value pos) (wFldS Cs wo we m) :=
  ⟨fun W ck => (ps_fld (ho.ok W ck) (he.ok W ck) hs).imp fun D σ H ⟨E, env, h, rs, rw_, q, ks⟩ =>
    ⟨env, h, _, _, rs, rw_, q, fun d h1 v H1 p1 r1 rd q1 => ⟨env, h1, _, _, rs.mono p1, r1, q1, fun od h2 ov H2 p2 r2 ro ⟨a, C, fs, eo, e1, hC, hl, q2⟩ => by
      subst eo
      cases ro
      obtain ⟨dx, vs, hv, hn, rr⟩ := r2 _ _ e1
      obtain ⟨c1, c2⟩ := c.ok C hC
      have w : Wr (H2 a) := by rw [hv]; exact True.intro
      have pw : Pe H2 (upd H2 a (.ins C dx (putF m v vs))) := Pe.wr w
      obtain ⟨i1, i2⟩ := put_rel (f := m) (rd.mono p2) hn rr
      have hl2 : vs.length < 1000 := by
        have z := congrArg List.length hn
        rw [List.length_map, List.length_map] at z
        omega
      have p := (p1.trans p2).trans pw
      exact ⟨a, C, dx, vs, rfl, hv, c1, c2, hl2, ks.nx env _ σ _ p (rs.mono p) (r2.set w (show RO X.K _ a (.ins C (putD m d fs)) from ⟨dx, _, upd_same, i1, i2.mono pw⟩)) q2⟩, (ks.mono p1).kx (rs.mono p1)⟩, ks.kx rs⟩⟩
/-- x op= e, of ints -/
def wAugI (i : Nat) (f : Int → Int → Int) (we : WE) : WS := fun E env h => match env[i]? with
  | some (some (.int a)) => we env h (fun d h1 => match d with
    | .int b => E.nx (env.set i (some (.int (f a b)))) h1
    | _ => False) (fun x h1 => E.rx x env h1)
  | _ => False
theorem aug_ok {W : WX} {i : Nat} {f : Int → Int → Int} (D : Ends) (σ : L2.St) (H : Hp) (q : tS X.K W (wAugI i f we) D σ H) : tAug i (tE X.K W we) (ipI f) D σ H := by
  obtain ⟨E, env, h, rs, rw_, q, ks⟩ := q
  unfold wAugI at q
  split at q
  · rename_i a e1
    obtain ⟨v, e2, rv⟩ := rs.get e1
    cases rv
    refine ⟨_, e2, env, h, _, _, rs, rw_, q, fun d h1 v H1 p1 r1 rd q1 => ?_, ks.kx rs⟩
    cases d <;> try exact q1.elim
    cases rd
    exact ⟨_, _, rfl, rfl, ks.nx _ h1 _ H1 p1 ((rs.mono p1).set i (.int _)) r1 q1⟩
  · exact q.elim
theorem ds_addI {i : Nat} (hN : X.N.Nodup) (he : DE X e we) (hi : X.N[i]? = some x := by rfl) (hx : Loc X.env.scope x := by first | exact Or.inl rfl | exact Or.inr rfl) (hf : X.fn x = true ∨ X.env.scope.names.lookup x = some .local := by first | exact .inl rfl | exact .inr rfl) :
    DS X (.AugAssign (.Name x pos') .Add e pos) (wAugI i (fun a b => a + b) we) := ⟨fun W ck => (ps_aug hN hi hx (he.ok W ck) ip_add hf).imp aug_ok⟩
theorem ds_subI {i : Nat} (hN : X.N.Nodup) (he : DE X e we) (hi : X.N[i]? = some x := by rfl) (hx : Loc X.env.scope x := by first | exact Or.inl rfl | exact Or.inr rfl) (hf : X.fn x = true ∨ X.env.scope.names.lookup x = some .local := by first | exact .inl rfl | exact .inr rfl) :
    DS X (.AugAssign (.Name x pos') .Sub e pos) (wAugI i (fun a b => a - b) we) := ⟨fun W ck => (ps_aug hN hi hx (he.ok W ck) ip_sub hf).imp aug_ok⟩
/-! ### while -/
def whileW (c : WT) (b : WS) (E : En) : Nat → Ev → DH → Prop
  | 0, _, _ => False
  | n + 1, env, h => c env h (fun k h1 => if k = true then b { E with nx := whileW c b E n, ct := whileW c b E n, bk := E.nx } env h1 else E.nx env h1) (fun x h1 => E.rx x env h1)
def wWhile (c : WT) (b : WS) : WS := fun E env h => ∃ n, whileW c b E n env h
theorem ds_while (hc : DT X c wt) (hb : DSs X body w1) : DS X (.While c body [] pos) (wWhile wt w1) :=
  ⟨fun W ck => (ps_while ck.po (hc.ok W ck) (hb.ok W ck)).imp fun D σ H ⟨E, env, h, rs, rw_, ⟨n, q⟩, ks⟩ => by
    refine ⟨fun m σ' H' => ∃ env h, Pe H H' ∧ RS X.K H' env σ' ∧ RW X.K h H' ∧ whileW wt w1 E m env h, ⟨n, env, h, .refl H, rs, rw_, q⟩, ?_⟩
    rintro m σ1 H1 ⟨env1, h1, p1, rs1, r1, q1⟩
    cases m with
    | zero => exact q1.elim
    | succ m =>
      have ks1 := ks.mono p1
      refine ⟨env1, h1, _, _, rs1, r1, q1, fun k h2 H2 p2 r2 q2 => ?_, ks1.kx rs1⟩
      cases k with
      | false =>
        rw [if_neg Bool.false_ne_true] at q2 ⊢
        exact ks1.nx env1 h2 σ1 H2 p2 (rs1.mono p2) r2 q2
      | true =>
        rw [if_pos rfl] at q2 ⊢
        refine ⟨fun σ' H' => ∃ env h, Pe H H' ∧ RS X.K H' env σ' ∧ RW X.K h H' ∧ whileW wt w1 E m env h, fun σ' H' z => ⟨m, Nat.lt_succ_self m, z⟩, _, env1, h2, rs1.mono p2, r2, q2, ?_⟩
        have ks2 := ks1.mono p2
        exact ⟨fun e' h' s' H' p r1 r2 q' => ⟨e', h', (p1.trans p2).trans p, r1, r2, q'⟩, ks2.rt, fun e' h' s' H' p r1 r2 q' => ks2.nx e' h' s' H' p r1 r2 q', fun e' h' s' H' p r1 r2 q' => ⟨e', h', (p1.trans p2).trans p, r1, r2, q'⟩, ks2.rx⟩⟩
/-! ### what is walked -/
structure Src where
  xs : List D
  gd : DH → Prop
abbrev WI := Ev → DH → (Src → DH → Prop) → QX → Prop
def ItOk (K : PySem.W.Frag) (H1 : Hp) (s : Src) (J : It) : Prop := ∀ i H h, Pe H1 H → RW K h H → s.gd h →
  (∀ x, s.xs[i]? = some x → J.go i H ∧ ∀ v H', J.yld i H v H' → Pe H H' ∧ RW K h H' ∧ RD K H' x v) ∧ (i = s.xs.length → J.stop i H)
def tI (K : PySem.W.Frag) (W : WX) (w : WI) : TI := fun σ H R => ∃ (env : Ev) (h : DH) (Qn : Src → DH → Prop) (Qx : QX), RS K H env σ ∧ RW K h H ∧ w env h Qn Qx ∧ (∀ s h' J H', Pe H H' → RW K h' H' → ItOk K H' s J → Qn s h' → R J H') ∧ KX K H Qx W σ
structure DI (X : Cx) (tg iter : Expr) (w : WI) : Prop where
  ok : ∀ W, Cok X W → PI X tg iter (tI X.K W w)
def forW (gd : DH → Prop) (g : WG) (b : WS) (E : En) : List D → Ev → DH → Prop
  | [], env, h => E.nx env h
  | x :: xs, env, h => g x env h fun e1 h1 => b { E with nx := fun e2 h2 => gd h2 ∧ forW gd g b E xs e2 h2, ct := fun e2 h2 => gd h2 ∧ forW gd g b E xs e2 h2, bk := E.nx } e1 h1
def wFor (wi : WI) (g : WG) (b : WS) : WS := fun E env h => wi env h (fun s h1 => s.gd h1 ∧ forW s.gd g b E s.xs env h1) (fun x h1 => E.rx x env h1)
theorem _root_.L2.PI.imp {X : Cx} {tg e : Expr} {t t' : TI} (p : PI X tg e t) (h : ∀ σ H R, t' σ H R → t σ H R) : PI X tg e t' := ⟨fun pins s σ H R I q => p.run pins s σ H R I (h σ H R q)⟩
theorem ds_for {tg iter : Expr} {wi : WI} {g : WG} (hi : DI X tg iter wi) (hg : DG X tg g) (hb : DSs X body w1) (hc : X.calm = true := by rfl) (hs : ∀ x, foldedSetIterable iter X.env x = pure x := by intro _; rfl) : DS X (.For tg iter body [] pos) (wFor wi g w1) :=
  ⟨fun W ck => (ps_for ck.po hc (hi.ok W ck) (hg.ok W ck) (hb.ok W ck) hs).imp fun D σ H ⟨E, env, h, rs, rw_, q, ks⟩ => by
    refine ⟨env, h, _, _, rs, rw_, q, fun s h1 J H1 p1 r1 it ⟨gd1, q1⟩ => ?_, ks.kx rs⟩
    refine ⟨fun i m σ' H' => m = s.xs.length - i ∧ i ≤ s.xs.length ∧ ∃ env h, Pe H1 H' ∧ RS X.K H' env σ' ∧ RW X.K h H' ∧ s.gd h ∧ forW s.gd g w1 E (s.xs.drop i) env h,
      ⟨s.xs.length, by simp, Nat.zero_le _, env, h1, .refl H1, rs.mono p1, r1, gd1, by simpa using q1⟩, ?_⟩
    rintro i m σ2 H2 ⟨rfl, hle, env2, h2, p2, rs2, r2, gd2, q2⟩
    have ks2 := ks.mono (p1.trans p2)
    by_cases hlt : i < s.xs.length
    · have hx : s.xs[i]? = some s.xs[i] := List.getElem?_eq_getElem hlt
      obtain ⟨go, yl⟩ := (it i H2 h2 p2 r2 gd2).1 _ hx
      rw [List.drop_eq_getElem_cons hlt] at q2
      refine .inr ⟨go, fun σ' H' => ∃ env h, Pe H1 H' ∧ RS X.K H' env σ' ∧ RW X.K h H' ∧ s.gd h ∧ forW s.gd g w1 E (s.xs.drop (i + 1)) env h, fun σ' H' z => ⟨s.xs.length - (i + 1), by omega, rfl, hlt, z⟩, fun v H3 y => ?_⟩
      obtain ⟨p3, r3, rd3⟩ := yl v H3 y
      refine ⟨_, env2, h2, _, rd3, rs2.mono p3, r3, q2, fun e4 h4 s4 H4 p4 rs4 r4 q4 => ?_⟩
      have ks4 := ks2.mono (p3.trans p4)
      have pp := p2.trans (p3.trans p4)
      exact ⟨_, e4, h4, rs4, r4, q4, ⟨fun e' h' s' H' p r1 r2 q' => ⟨e', h', pp.trans p, r1, r2, q'.1, q'.2⟩, ks4.rt, fun e' h' s' H' p r1 r2 q' => ks4.nx e' h' s' H' p r1 r2 q', fun e' h' s' H' p r1 r2 q' => ⟨e', h', pp.trans p, r1, r2, q'.1, q'.2⟩, ks4.rx⟩⟩
    · have e : i = s.xs.length := by omega
      subst e
      rw [List.drop_length] at q2
      exact .inl ⟨(it _ H2 h2 p2 r2 gd2).2 rfl, ks2.nx env2 h2 σ2 H2 (.refl H2) rs2 r2 q2⟩⟩
/-! a list or a tuple -/
def srcQ (h : DH) (d : D) (k : Src → Prop) : Prop := match d with
  | .tup xs => k ⟨xs, fun _ => True⟩
  | .sl xs => k ⟨xs, fun _ => True⟩
  | .ref a => match h a with
    | some (.lst xs) => k ⟨xs, fun h' => h' a = some (.lst xs)⟩
    | _ => False
  | _ => False
def srcI (h : DH) (d : D) (k : Src → Prop) : Prop := match d with
  | .otup xs => k ⟨xs, fun _ => True⟩
  | d => srcQ h d k
def wItems (we : WE) : WI := fun env h Q Qx => we env h (fun d h1 => srcI h1 d fun s => Q s h1) Qx
theorem it_tup {K : PySem.W.Frag} {H1 : Hp} {a : Addr} {xs : List D} {vs : List V} (t : SqT K H1 a vs) (r : RDs K H1 xs vs) (tup : ∀ H, Pe H1 H → SqT K H a vs) (inj : True) : ∀ (i : Nat) (H : Hp) (h : DH), Pe H1 H → RW K h H →
    (∀ x, xs[i]? = some x → (Itt K a).go i H ∧ ∀ v H', (Itt K a).yld i H v H' → Pe H H' ∧ RW K h H' ∧ RD K H' x v) ∧ (i = xs.length → (Itt K a).stop i H) := fun i H h p rw_ =>
  ⟨fun x hx => by
    obtain ⟨v, hv, rd⟩ := r.get hx
    exact ⟨⟨vs, v, tup H p, hv⟩, fun v' H' ⟨e, y⟩ => by
      subst e
      have z := y vs (tup _ p)
      rw [hv] at z
      cases z
      exact ⟨.refl _, rw_, rd.mono p⟩⟩, fun hl => ⟨vs, tup H p, by rw [← r.length]; exact Nat.le_of_eq hl.symm⟩⟩
theorem it_lst {K : PySem.W.Frag} {H1 : Hp} {a : Addr} {xs : List D} {gd : DH → Prop} (at_ : ∀ H h, Pe H1 H → RW K h H → gd h → ∃ vs, SqL K H a vs ∧ RDs K H xs vs) : ItOk K H1 ⟨xs, gd⟩ (Itl K a) := fun i H h p rw_ g => by
  obtain ⟨vs, s, r⟩ := at_ H h p rw_ g
  refine ⟨fun x hx => ?_, fun hl => ⟨vs, s, by rw [← r.length]; exact Nat.le_of_eq hl.symm⟩⟩
  obtain ⟨v, hv, rd⟩ := r.get hx
  refine ⟨⟨vs, v, s, hv⟩, fun v' H' y => ?_⟩
  obtain ⟨e, y⟩ := y
  subst e
  have z := y vs s
  rw [hv] at z
  cases z
  exact ⟨.refl _, rw_, rd⟩
/-- any sequence, walked -/
theorem di_items {tg : Expr} (he : DE X e we) : DI X tg e (wItems we) := ⟨fun W ck => ⟨fun pins s σ H R I h => by
  obtain ⟨env, h, Qn, Qx, rs, rw_, q, kr, kx⟩ := h
  refine thn ((he.ok W ck).run pins s σ H (fun v H1 => ∃ d h1, Pe H H1 ∧ RW X.K h1 H1 ∧ RD X.K H1 d v ∧ srcI h1 d fun s => Qn s h1) I ⟨env, h, _, Qx, rs, rw_, q, fun d h1 v H1 p1 r1 rd q1 => ⟨d, h1, p1, r1, rd, q1⟩, kx⟩) fun u s1 hh => ?_
  obtain ⟨v, H1, I1, rv, d, h1, p1, r1, rd, q1⟩ := hh
  have lst : ∀ (a : Addr) (vs : List V) (sr : Src), v = .ref a → SqL X.K H1 a vs → ItOk X.K H1 sr (Itl X.K a) → Qn sr h1 → wpAny (model X.prog X.w) X.A (pyIter u) (PIE X pins σ tg R) X.xe s1 := fun a vs sr ev sq it qq => by
    subst ev
    cases (show u = Value.ref a from rv)
    obtain ⟨its, ra, p, hz⟩ := I1.list sq
    refine wpAny_pyIter_list p.isList ⟨s1.heap.objs.size, [s1.heap.objs.size], _, _, H1, rfl, I1.kept (t' := s1.toks) fun b o e => Heap.get?_push_of_some _ e, turn_list a _, ⟨_, Heap.get?_push_size _ rfl, rfl, rfl⟩, fun b hb => ?_, kr sr h1 _ H1 p1 r1 it qq⟩
    cases List.mem_singleton.mp hb
    exact I1.fpOk (Nat.le_refl _) (I1.hok.fresh (Nat.le_refl _))
  cases d with
  | tup xs =>
    obtain ⟨a, vs, rfl, t, r⟩ := rd.tup_inv
    cases (show u = Value.ref a from rv)
    obtain ⟨its, ra, p, hz⟩ := I1.tuple t.sqT
    refine wpAny_pyIter_tuple (show s1.heap.IsTuple a its.toArray from p) ⟨s1.heap.objs.size, [s1.heap.objs.size], _, _, H1, rfl, I1.kept (t' := s1.toks) fun b o e => Heap.get?_push_of_some _ e, turn_tuple a _, ⟨_, Heap.get?_push_size _ rfl, rfl, rfl⟩, fun b hb => ?_,
      kr ⟨xs, fun _ => True⟩ h1 _ H1 p1 r1 (fun i H h p rw_ _ => it_tup t.sqT r (fun H p => p.sqT t.sqT) trivial i H h p rw_) q1⟩
    cases List.mem_singleton.mp hb
    exact I1.fpOk (Nat.le_refl _) (I1.hok.fresh (Nat.le_refl _))
  | otup xs =>
    obtain ⟨a, vs, rfl, t, r⟩ := rd.otup_inv
    cases (show u = Value.ref a from rv)
    obtain ⟨its, ra, p, hz⟩ := I1.tuple t
    refine wpAny_pyIter_tuple (show s1.heap.IsTuple a its.toArray from p) ⟨s1.heap.objs.size, [s1.heap.objs.size], _, _, H1, rfl, I1.kept (t' := s1.toks) fun b o e => Heap.get?_push_of_some _ e, turn_tuple a _, ⟨_, Heap.get?_push_size _ rfl, rfl, rfl⟩, fun b hb => ?_,
      kr ⟨xs, fun _ => True⟩ h1 _ H1 p1 r1 (fun i H h p rw_ _ => it_tup t r (fun H p => p.sqT t) trivial i H h p rw_) q1⟩
    cases List.mem_singleton.mp hb
    exact I1.fpOk (Nat.le_refl _) (I1.hok.fresh (Nat.le_refl _))
  | sl xs =>
    obtain ⟨a, vs, ev, t, r⟩ := rd.sl_inv
    exact lst a vs ⟨xs, fun _ => True⟩ ev t.seq (it_lst fun H h p rw_ _ => ⟨vs, (p.stL t).seq, r.mono p⟩) q1
  | ref a =>
    have ev : v = .ref a := rd.ref_inv
    unfold srcI at q1
    dsimp only at q1
    unfold srcQ at q1
    dsimp only at q1
    split at q1
    · rename_i xs e1
      obtain ⟨vs, hv, r⟩ := r1 _ _ e1
      exact lst a vs ⟨xs, _⟩ ev (SqL.of hv) (it_lst fun H h p rw_ g => by
        obtain ⟨vs', hv', r'⟩ := rw_ _ _ g
        exact ⟨vs', SqL.of hv', r'⟩) q1
    · exact q1.elim
  | _ => exact q1.elim⟩⟩
/-- lo, lo + 1, .. n of them -/
def upto (lo : Int) (n : Nat) : List D := (List.range n).map fun i => D.int (lo + (i : Nat))
theorem upto_get {lo : Int} {n i : Nat} {x : D} (h : (upto lo n)[i]? = some x) : i < n ∧ x = .int (lo + (i : Nat)) := by
  unfold upto at h
  rw [List.getElem?_map] at h
  by_cases hi : i < n
  · rw [List.getElem?_range hi] at h
    cases h
    exact ⟨hi, rfl⟩
  · rw [List.getElem?_eq_none (by simpa using hi)] at h; cases h
theorem it_rng {K : PySem.W.Frag} {H1 : Hp} {lo : Int} {n : Nat} : ItOk K H1 ⟨upto lo n, fun _ => True⟩ (Itr lo n) := fun i H h p rw_ _ =>
  ⟨fun x hx => by
    obtain ⟨hi, rfl⟩ := upto_get hx
    exact ⟨hi, fun v H' ⟨e1, e2⟩ => by subst e1 e2; exact ⟨.refl _, rw_, .int _⟩⟩, fun hl => by
    have z : n ≤ i := by have hl := Nat.le_of_eq hl.symm; simpa [upto] using hl
    exact z⟩
def wRng1 (ws : WA) : WI := fun env h Q Qx => ws env h (fun ds h1 => match ds with
  | [.int j] => -(2 ^ 62) ≤ j ∧ j < 2 ^ 62 ∧ Q ⟨upto 0 j.toNat, fun _ => True⟩ h1
  | _ => False) Qx
def wRng2 (ws : WA) : WI := fun env h Q Qx => ws env h (fun ds h1 => match ds with
  | [.int i, .int j] => (-(2 ^ 62) ≤ i ∧ i < 2 ^ 62 ∧ -(2 ^ 62) ≤ j ∧ j < 2 ^ 62) ∧ Q ⟨upto i (j - i).toNat, fun _ => True⟩ h1
  | _ => False) Qx
theorem di_rng1 {tg a : Expr} {ws : WA} {p : Pos} (hg : Gl X "range") (hm : X.mg "range" = none) (ha : DA X [a] ws) (hs : starEach [a] X.env = [(false, eval a X.env)] := by rfl) : DI X tg (.Call (.Name "range" p) [a] [] pos) (wRng1 ws) :=
  ⟨fun W ck => (pi_range1 hg hm (ha.ok W ck) hs).imp fun σ H R ⟨env, h, Qn, Qx, rs, rw_, q, kr, kx⟩ =>
    ⟨env, h, _, Qx, rs, rw_, q, fun ds h1 vs H1 p1 r1 rds q1 => by
      split at q1
      · rename_i j
        cases rds with
        | cons r t => cases t; cases r; exact ⟨j, rfl, q1.1, q1.2.1, kr _ h1 _ H1 p1 r1 it_rng q1.2.2⟩
      · exact q1.elim, kx⟩⟩
theorem di_rng2 {tg a b : Expr} {ws : WA} {p : Pos} (hg : Gl X "range") (hm : X.mg "range" = none) (ha : DA X [a, b] ws) (hs : starEach [a, b] X.env = [(false, eval a X.env), (false, eval b X.env)] := by rfl) (hs2 : starEach [b] X.env = [(false, eval b X.env)] := by rfl) :
    DI X tg (.Call (.Name "range" p) [a, b] [] pos) (wRng2 ws) :=
  ⟨fun W ck => (pi_range2 hg hm (ha.ok W ck) hs hs2).imp fun σ H R ⟨env, h, Qn, Qx, rs, rw_, q, kr, kx⟩ =>
    ⟨env, h, _, Qx, rs, rw_, q, fun ds h1 vs H1 p1 r1 rds q1 => by
      split at q1
      · rename_i i j
        cases rds with
        | cons r t =>
          cases t with
          | cons r2 t => cases t; cases r; cases r2; exact ⟨i, j, rfl, q1.1, kr _ h1 _ H1 p1 r1 it_rng q1.2⟩
      · exact q1.elim, kx⟩⟩
end
end DL
namespace DL
open PySem PySem.Spec PyProof.Rows L2
/-! ### comprehensions over one thing, the target a name -/
section
variable {X : Cx} {elt iter c : Expr} {ifs : List Expr} {scope : Scope} {x y : Str} {pos py pp spos : Pos} {wi : WI} {wt : WT} {we : WE} {i : Nat}
structure DTs (X : Cx) (ifs : List Expr) (w : WT) : Prop where
  ok : ∀ W, Cok X W → PTs X ifs (tT X.K W w)
theorem _root_.L2.PTs.imp {X : Cx} {e : List Expr} {t t' : TT} (p : PTs X e t) (h : ∀ σ H Q, t' σ H Q → t σ H Q) : PTs X e t' := ⟨fun pins s σ H Q I q => p.run pins s σ H Q I (h σ H Q q)⟩
def wYes : WT := fun _ h Q _ => Q true h
theorem dts_nil : DTs X [] wYes := ⟨fun W ck => pts_nil.imp fun σ H Q ⟨env, h, Qn, Qx, rs, rw_, q, kq, kx⟩ => kq true h H (.refl H) rw_ q⟩
theorem dts_one (h : DT X c wt) : DTs X [c] wt := ⟨fun W ck => pts_one (h.ok W ck)⟩
def lcW (p : Addr) (gd : DH → Prop) (i : Nat) (wt : WT) (we : WE) (env : Ev) (Q : DH → Prop) : List D → DH → Prop
  | [], h => Q h
  | x :: xs, h => wt (env.set i (some x)) h (fun b h2 => if b = true then we (env.set i (some x)) h2 (fun y h3 => lstQ h3 (.ref p) fun _ acc => acc.length < sizeLine ∧ gd (dup h3 p (.lst (acc ++ [y]))) ∧ lcW p gd i wt we env Q xs (dup h3 p (.lst (acc ++ [y])))) (fun _ _ => False)
      else gd h2 ∧ lcW p gd i wt we env Q xs h2) (fun _ _ => False)
def wLc (wi : WI) (i : Nat) (wt : WT) (we : WE) : WE := fun env h Q Qx => wi env h (fun s h1 => ∀ p, h1 p = none → s.gd (dup h1 p (.lst [])) ∧ lcW p s.gd i wt we env (fun h2 => Q (.ref p) h2) s.xs (dup h1 p (.lst []))) Qx
theorem lc_imp {K : PySem.W.Frag} {W : WX} {σ : L2.St} {H : Hp} {Q : VK} (h : tE K W (wLc wi i wt we) σ H Q) :
    tLc (tI K W wi) (gName i) (tT K (fun _ _ _ _ => False) wt) (tE K (fun _ _ _ _ => False) we) [i] σ H Q := by
  obtain ⟨env, h, Qn, Qx, rs, rw_, q, kq, kx⟩ := h
  refine ⟨env, h, _, Qx, rs, rw_, q, fun s h1 J H1 p1 r1 it q1 => fun p hp => ?_, kx⟩
  obtain ⟨gd1, q2⟩ := q1 p (r1.fresh hp)
  have pn : Pe H1 (upd H1 p (.lst [])) := Pe.new hp
  refine ⟨fun j m H' => m = s.xs.length - j ∧ j ≤ s.xs.length ∧ ∃ h', Pe (upd H1 p (.lst [])) H' ∧ RW K h' H' ∧ s.gd h' ∧ lcW p s.gd i wt we env (fun h2 => Qn (.ref p) h2) (s.xs.drop j) h',
    ⟨s.xs.length, by simp, Nat.zero_le _, _, .refl _, r1.new hp (show RO K _ p (.lst []) from ⟨[], upd_same, .nil⟩), gd1, by simpa using q2⟩, ?_⟩
  rintro j m H2 ⟨rfl, hle, h2, p2, r2, gd2, q3⟩
  have pp := pn.trans p2
  by_cases hlt : j < s.xs.length
  · have hx : s.xs[j]? = some s.xs[j] := List.getElem?_eq_getElem hlt
    obtain ⟨go, yl⟩ := (it j H2 h2 pp r2 gd2).1 _ hx
    rw [List.drop_eq_getElem_cons hlt] at q3
    refine .inr ⟨go, fun H' => ∃ h', Pe (upd H1 p (.lst [])) H' ∧ RW K h' H' ∧ s.gd h' ∧ lcW p s.gd i wt we env (fun h2 => Qn (.ref p) h2) (s.xs.drop (j + 1)) h', fun H' z => ⟨s.xs.length - (j + 1), by omega, rfl, hlt, z⟩, fun v H3 y => ?_⟩
    obtain ⟨p3, r3, rd3⟩ := yl v H3 y
    have ew : ((wipe σ [i]).set i (some v)) = σ.set i (some v) := by show (σ.set i none).set i (some v) = _; rw [List.set_set]
    have rs3 : RS K H3 (env.set i (some s.xs[j])) ((wipe σ [i]).set i (some v)) := by rw [ew]; exact (rs.mono (p1.trans (pp.trans p3))).set i rd3
    refine ⟨by rw [ew]; show (σ.set i (some v)).set i none = σ.set i none; rw [List.set_set], _, h2, _, _, rs3, r3, q3, fun b h4 H4 p4 r4 q4 => ?_, noX⟩
    cases b with
    | false =>
      rw [if_neg Bool.false_ne_true] at q4 ⊢
      exact ⟨h4, p2.trans (p3.trans p4), r4, q4.1, q4.2⟩
    | true =>
      rw [if_pos rfl] at q4 ⊢
      refine ⟨_, h4, _, _, rs3.mono p4, r4, q4, fun d h5 u H5 p5 r5 rd5 q5 => ?_, noX⟩
      obtain ⟨a, acc, ea, e5, hz, g5, q6⟩ := q5.get
      cases ea
      obtain ⟨vs, hv, rr⟩ := r5 _ _ e5
      have w : Wr (H5 p) := by rw [hv]; exact True.intro
      have pw : Pe H5 (upd H5 p (.lst (vs ++ [u]))) := Pe.wr w
      exact ⟨vs, hv, by rw [← rr.length]; exact hz, _, p2.trans (p3.trans (p4.trans (p5.trans pw))), r5.set w (show RO K _ p (.lst (acc ++ [d])) from ⟨_, upd_same, (rr.append (.cons rd5 .nil)).mono pw⟩), g5, q6⟩
  · have e : j = s.xs.length := by omega
    subst e
    rw [List.drop_length] at q3
    exact .inl ⟨(it _ H2 h2 pp r2 gd2).2 rfl, kq (.ref p) h2 (.ref p) H2 (p1.trans pp) r2 (.ref p) q3⟩
theorem cok_blk {s : Shared} {H : Hp} {env : Env} {fp : List Addr} : Cok (X.blk s H scope env fp) (fun _ _ _ _ => False) := ⟨takes0, PassesOwn.never⟩
theorem de_lc (hN : X.N.Nodup) (hi : DI X (.Name x pp) iter wi) (ok : BlkOk X.N X.env.scope scope [(x, i)])
    (hg : ∀ (s : Shared) (H : Hp) (C : Addr) (cl : List (Str × Addr)) (fp : List Addr), PG (X.blk s H scope (compEnvC scope cl C X.env) fp) (.Name x pp) (gName i))
    (ht : ∀ (s : Shared) (H : Hp) (C : Addr) (cl : List (Str × Addr)) (fp : List Addr), DTs (X.blk s H scope (compEnvC scope cl C X.env) fp) ifs wt)
    (he : ∀ (s : Shared) (H : Hp) (C : Addr) (cl : List (Str × Addr)) (fp : List Addr), DE (X.blk s H scope (compEnvC scope cl C X.env) fp) elt we)
    (hc : X.calm = true := by rfl) (hs : ∀ x, foldedSetIterable iter X.env x = pure x := by intro _; rfl) : DE X (.ListComp elt [⟨.Name x pp, iter, ifs, 0⟩] scope pos) (wLc wi i wt we) :=
  ⟨fun W ck => (pe_lc (own := [(x, i)]) hc hN (hi.ok W ck) ok hg (fun s H C cl fp => (ht s H C cl fp).ok _ cok_blk) (fun s H C cl fp => (he s H C cl fp).ok _ cok_blk) hs).imp fun σ H Q h => lc_imp h⟩
theorem ds_setLc {iy : Nat} (hN : X.N.Nodup) (hi : DI X (.Name x pp) iter wi) (ok : BlkOk X.N X.env.scope scope [(x, i)])
    (hg : ∀ (s : Shared) (H : Hp) (C : Addr) (cl : List (Str × Addr)) (fp : List Addr), PG (X.blk s H scope (compEnvC scope cl C X.env) fp) (.Name x pp) (gName i))
    (ht : ∀ (s : Shared) (H : Hp) (C : Addr) (cl : List (Str × Addr)) (fp : List Addr), DTs (X.blk s H scope (compEnvC scope cl C X.env) fp) ifs wt)
    (he : ∀ (s : Shared) (H : Hp) (C : Addr) (cl : List (Str × Addr)) (fp : List Addr), DE (X.blk s H scope (compEnvC scope cl C X.env) fp) elt we)
    (hsw : swapsWith (.ListComp elt [⟨.Name x pp, iter, ifs, 0⟩] scope pos) (some (.Name y py)) spos.line X.env = pure true)
    (hy : X.N[iy]? = some y := by rfl) (hyl : X.env.scope.names.lookup y = some .local := by rfl)
    (hc : X.calm = true := by rfl) (hs : ∀ x, foldedSetIterable iter X.env x = pure x := by intro _; rfl) : DS X (.Assign [.Name y py] (.ListComp elt [⟨.Name x pp, iter, ifs, 0⟩] scope pos) spos) (wSet iy (wLc wi i wt we)) :=
  ⟨fun W ck => (ps_setLc (own := [(x, i)]) hc hN hy hyl hsw (hi.ok W ck) ok hg (fun s H C cl fp => (ht s H C cl fp).ok _ cok_blk) (fun s H C cl fp => (he s H C cl fp).ok _ cok_blk) hs).imp fun D σ H ⟨E, env, h, rs, rw_, q, ks⟩ =>
    lc_imp ⟨env, h, _, _, rs, rw_, q, fun d h1 v H1 p1 r1 rd q1 => ks.nx _ h1 _ H1 p1 ((rs.mono p1).set iy rd) r1 q1, ks.kx rs⟩⟩
end
/-! ### a def from its body -/
/-- the worth that a body's reading gives: what the def has made may be forgotten where it ends -/
def wDef (np nn : Nat) (w : WS) : WF := fun ds h Q Qx => ds.length = np ∧
  w { nx := fun _ h' => ∃ h2, Sub h2 h' ∧ Q .non h2, rt := fun d h' => ∃ h2, Sub h2 h' ∧ Q d h2, bk := fun _ _ => False, ct := fun _ _ => False, rx := fun x _ h' => ∃ h2, Sub h2 h' ∧ Qx x h2 } (ds.map some ++ List.replicate (nn - np) none) h
theorem wDef_ar {np nn : Nat} {w : WS} : Ar np (wDef np nn w) := fun _ _ _ _ q => q.1
section
variable {P : Program} {w : World} {K : PySem.W.Frag} {mg : Str → Option Value} {base : Heap}
theorem fnD_of {x qual : Str} {st : Stmt} {f : Addr} {fd : FuncData} {N ps : List Str} {k : Nat} {wb : WS} (F : Fun K x qual st f fd) (S : FnScope N ps (defScope st))
    (hb : ∀ (cdv : Value) (A : Around) (outer : List Env) (s : Shared) (H : Hp) (E : XK), Room k (A.deeper (envOfC qual (defScope st) s.heap.objs.size f cdv)) →
      DSs (cxOf (L2.CX P w) P w K mg base N qual (defScope st) f cdv A outer s H E) (defBody st) wb) : FnD P w K mg base (k + 1) f fd ps (wDef ps.length N.length wb) := by
  refine F.okX S (fun vs H Q E h => h.1) fun cdv A outer s H vs Q E hr hsp => ?_
  obtain ⟨hl, ds, h, Qn, Qx, rds, rw_, ⟨hn, q⟩, kq, ke⟩ := hsp
  have cok : Cok (cxOf (L2.CX P w) P w K mg base N qual (defScope st) f cdv A outer s H E) (fun cls d _ H => E cls d H) := ⟨takes_of rfl rfl rfl rfl, passes_of rfl⟩
  refine ⟨_, (hb cdv A outer s H E hr).ok _ cok, ?_⟩
  have rs : RS K H (ds.map some ++ List.replicate (N.length - ps.length) none) (start N vs) := by
    unfold L2.start
    rw [hl]
    exact RS.start _ rds
  refine ⟨_, _, h, rs, rw_, q, ⟨fun e' h' s' H' p r1 r2 ⟨h2, sb, q'⟩ => kq .non h2 .non H' p (r2.sub sb) .non q', fun d h' v H' p r rd ⟨h2, sb, q'⟩ => kq d h2 v H' p (r.sub sb) rd q', fun _ _ _ _ _ _ _ z => z.elim, fun _ _ _ _ _ _ _ z => z.elim,
    fun x e' h' s' c d H' p r1 r2 rx ⟨h2, sb, q'⟩ => ke x h2 c d H' p (r2.sub sb) rx q'⟩⟩
/-- a weaker worth -/
theorem FnOk.worth {k : Nat} {f : Addr} {fd : FuncData} {ps : List Str} {wf wf' : WF} (F : FnD P w K mg base k f fd ps wf) (h : ∀ ds h Q Qx, wf' ds h Q Qx → wf ds h Q Qx) : FnD P w K mg base k f fd ps wf' :=
  FnOk.imp F fun vs H Q E ⟨a, ds, h', Qn, Qx, r1, r2, q, kq, ke⟩ => ⟨a, ds, h', Qn, Qx, r1, r2, h _ _ _ _ q, kq, ke⟩
end
/-! ### raise, try -/
section
variable {X : Cx} {C : Addr} {bmB : List Value} {B newId initId : String} {x m n : Str} {j i : Nat} {p p2 pos pos2 np pos' : Pos}
def wRaise (C : Addr) : WS := fun E env h => E.rx (.own C) env h
/-- raise X('m'), X an own class without __init__ -/
theorem ds_raise (F : ExcBaseFacts B newId initId bmB) (q : PySem.W.excIn X.K C bmB newId = true) (gC : X.mg x = some (.ref C)) (kC : PySem.W.keepIn X.K (.ref C) = true) (r : Raises X (.ref C)) (hg : Gl X x)
    (hc : X.calm = true := by rfl) (hdb : (x == ("__debug__" : Str)) = false := by decide) : DS X (.Raise (some (.Call (.Name x p) [.Constant (.str m) j p2] [] pos)) none pos2) (wRaise C) :=
  ⟨fun W ck => (ps_raise hc ck.tk (pmk_own F q gC kC r hg hdb)).imp fun D σ H ⟨E, env, h, rs, rw_, q, ks⟩ => ks.rx (.own C) env h σ (.ref C) none H (.refl H) rs rw_ ⟨rfl, rfl⟩ q⟩
/-- try: body, except c as n: suite. cm: which classes the clause takes -/
def wTry (wb : WS) (cm : List (Addr × Bool)) (i : Nat) (wsu : Addr → XC → WS) : WS := fun E env h =>
  wb { E with rx := fun x e' h' => (∃ b, (x.cls, b) ∈ cm ∧ if b = true then ∀ a, wsu a x { nx := fun e2 h2 => E.nx (e2.set i none) h2, rt := E.rt, bk := fun e2 h2 => E.bk (e2.set i none) h2, ct := fun e2 h2 => E.ct (e2.set i none) h2, rx := fun _ _ _ => False } (e'.set i (some (.ref a))) h' else E.rx x e' h') } env h
theorem RS.weak_ref {K : PySem.W.Frag} {H : Hp} {env : Ev} {σ : L2.St} (rs : RS K H env σ) (i : Nat) (a : Addr) : RS K H (env.set i (some (.ref a))) (σ.set i (some (.ref a))) := rs.set i (.ref a)
theorem ds_try {c : Value} {body suite : List Stmt} {b0 : Stmt} {wb : WS} {cm : List (Addr × Bool)} {wsu : Addr → XC → WS} (hN : X.N.Nodup) (hc : Names X x c) (hcm : ∀ q ∈ cm, PySem.W.exmOne X.K (.ref q.1) c = some q.2)
    (hb : ∀ (pn : List (Addr × Obj)) (xe : Value → Shared → Prop), DSs (X.tr pn xe) body wb)
    (hsu : ∀ (a : Addr) (oe : Obj) (xc : XC) (cls : Value) (d : Option Addr) (pn : List (Addr × Obj)), cls = .ref xc.cls → (∀ C, xc = .own C → d = none) → Zc cls d oe → (∃ vs, oe.data = .fields vs) → DSs (X.suite a ((a, oe) :: pn)) (b0 :: suite) (wsu a xc))
    (hs : X.stack = X.env :: X.outer := by rfl) (hf : X.env.frame = some X.env.locals := by rfl) (hi : X.N[i]? = some n := by rfl) (hln : X.env.kindOf n = some .local := by rfl) :
    DS X (.Try body [.ExceptHandler (some (.Name x np)) (some n) (b0 :: suite) pos'] [] [] pos) (wTry wb cm i wsu) :=
  ⟨fun W ck => (ps_try_as (tb := fun W2 => tS X.K W2 wb) (Wout := W) (ts := fun a cls d => fun D σ H => ∃ xc, cls = .ref xc.cls ∧ (∀ C, xc = .own C → d = none) ∧ tS X.K (fun _ _ _ _ => False) (wsu a xc) D σ H) hs hf hN hi hln hc ck.tk (fun W' pn xe tk po => (hb pn xe).ok W' ⟨tk, po⟩)
    (fun a oe cls d pn z f => ⟨fun pins s σ H D I ⟨xc, e, ed, q⟩ => ((hsu a oe xc cls d pn e ed z f).ok (fun _ _ _ _ => False) ⟨takes0, PassesOwn.never⟩).run pins s σ H D I q⟩)).imp fun D σ H ⟨E, env, h, rs, rw_, q, ks⟩ => by
    unfold wTry at q
    refine ⟨_, env, h, rs, rw_, q, ⟨ks.nx, ks.rt, ks.bk, ks.ct, ?_⟩⟩
    intro xc e' h' s' cls d H' p r1 r2 rx hq
    obtain ⟨b, hb1, hb2⟩ := hq
    have ec := rx.cls
    refine ⟨b, by rw [ec]; exact hcm _ hb1, fun eb a na => ?_, fun eb => ?_⟩
    · subst eb
      rw [if_pos rfl] at hb2
      have ks' := ks.mono p
      exact ⟨xc, ec, (fun C z => by subst z; exact rx.2), _, _, h', r1.set i (.ref a), r2, hb2 a, ⟨fun e2 h2 s2 H2 p2 q1 q2 q3 => ks'.nx _ h2 _ H2 p2 (q1.clear i) q2 q3, ks'.rt, fun e2 h2 s2 H2 p2 q1 q2 q3 => ks'.bk _ h2 _ H2 p2 (q1.clear i) q2 q3, fun e2 h2 s2 H2 p2 q1 q2 q3 => ks'.ct _ h2 _ H2 p2 (q1.clear i) q2 q3, fun _ _ _ _ _ _ _ _ _ _ _ z => z.elim⟩⟩
    · subst eb
      rw [if_neg Bool.false_ne_true] at hb2
      exact ks.rx xc e' h' s' cls d H' p r1 r2 rx hb2⟩
end
/-! ### a op1 b op2 c, a test or a value -/
section
variable {X : Cx} {a b c : Expr} {wa wb wc : WE} {pos : Pos}
def wChain (g g' : G2) (wa wb wc : WE) : WE := fun env h Q Qx => wa env h (fun x h1 => wb env h1 (fun y h2 => g x y h2 fun z h3 => match z with
  | .bl k => if k = true then wc env h3 (fun w h4 => g' y w h4 Q) Qx else Q (.bl false) h3
  | _ => False) Qx) Qx
theorem de_chain {op op' : CmpOp} {g g' : G2} (o : Op2 X (compareOp op) g) (o' : Op2 X (compareOp op') g') (ha : DE X a wa) (hb : DE X b wb) (hc : DE X c wc) (hm : lastMarks [op, op'] [b, c] = false := by with_unfolding_all rfl) :
    DE X (.Compare a [op, op'] [b, c] pos) (wChain g g' wa wb wc) := by
  obtain ⟨r, ho, s⟩ := o.ex
  obtain ⟨r', ho', s'⟩ := o'.ex
  refine ⟨fun W ck => (pe_chain ho ho' (ha.ok W ck) (hb.ok W ck) (hc.ok W ck) hm).imp fun σ H Q ⟨env, h, Qn, Qx, rs, rw_, q, kq, kx⟩ => ?_⟩
  refine ⟨env, h, _, Qx, rs, rw_, q, fun x h1 vx H1 p1 r1 rx q1 => ⟨env, h1, _, Qx, rs.mono p1, r1, q1, fun y h2 vy H2 p2 r2 ry q2 => s x y h2 _ H2 vx vy _ (rx.mono p2) ry r2 q2 fun d h3 v H3 p3 r3 rd q3 => ?_, kx.mono p1⟩, kx⟩
  obtain ⟨k, ed, q4⟩ := isB2 (P := fun c => _) q3
  subst ed
  refine ⟨k, rd.bl_inv, ?_⟩
  have pp := p1.trans (p2.trans p3)
  cases k with
  | false =>
    rw [if_neg Bool.false_ne_true] at q4 ⊢
    exact kq _ _ _ _ pp r3 (.bl _) q4
  | true =>
    rw [if_pos rfl] at q4 ⊢
    exact ⟨env, h3, _, Qx, rs.mono pp, r3, q4, fun z h4 vz H4 p4 r4 rz q5 => s' y z h4 Qn H4 vy vz Q (ry.mono (p3.trans p4)) rz r4 q5 (kq.mono (pp.trans p4)), kx.mono pp⟩
end
/-! ### isinstance(e, c) of a caught error -/
section
variable {X : Cx} {a D : Addr} {oe : Obj} {pn : List (Addr × Obj)} {n c : Str} {cv : Value} {b : Bool} {i : Nat} {p p2 p3 pos : Pos} {vc : V}
def wIsE (i : Nat) (a : Addr) (b : Bool) : WE := fun env h Q _ => env[i]? = some (some (.ref a)) ∧ Q (.bl b) h
theorem de_isE (EC : ExcC X.K D) (hz : Zc (.ref D) none oe) (hf : ∃ vs, oe.data = .fields vs) (kit : PySem.W.kitOne X.K (.ref D) cv = some b) (hcv : ∀ u, RelV vc u → u = cv) (hn : PE (X.suite a ((a, oe) :: pn)) (.Name n p3) (tVar i)) (hc : PE (X.suite a ((a, oe) :: pn)) (.Name c p2) (tC vc))
    (hg : Gl (X.suite a ((a, oe) :: pn)) "isinstance" := by rfl) (hm : X.mg "isinstance" = none)
    (h1 : starEach [.Name n p3, .Name c p2] (X.suite a ((a, oe) :: pn)).env = (false, eval (.Name n p3) (X.suite a ((a, oe) :: pn)).env) :: starEach [.Name c p2] (X.suite a ((a, oe) :: pn)).env := by rfl) (h2 : starEach [.Name c p2] (X.suite a ((a, oe) :: pn)).env = (false, eval (.Name c p2) (X.suite a ((a, oe) :: pn)).env) :: starEach [] (X.suite a ((a, oe) :: pn)).env := by rfl)
    (hpl : (backTo pos (starEach [.Name c p2] (X.suite a ((a, oe) :: pn)).env)).any (·.1) = false := by rfl) : DE (X.suite a ((a, oe) :: pn)) (.Call (.Name "isinstance" p) [.Name n p3, .Name c p2] [] pos) (wIsE i a b) :=
  ⟨fun W ck => (pe_callB (call_isE EC hz hf) hg hm (by decide +kernel) (pa_cons hn (pa_cons hc pa_nil h2) h1) (by decide) (by decide) h1 hpl).imp fun σ H Q ⟨env, h, Qn, Qx, rs, rw_, ⟨e1, q⟩, kq, kx⟩ => by
    obtain ⟨o, eo, ro⟩ := paired_get rs e1
    obtain ⟨y, rfl, ry⟩ := ro _ rfl
    cases ry
    refine ⟨_, eo, ?_⟩
    exact ⟨vc, cv, b, rfl, hcv, kit, kq _ h _ _ (.refl H) rw_ (.bl b) q⟩⟩
end
section
variable {X : Cx} {st : List Stmt} {w : WS} {p : Prop}
theorem dss_pure (d : p → DSs X st w) : DSs X st (fun E env h => p ∧ w E env h) := ⟨fun W ck => ⟨fun pins s σ H D I ⟨E, env, h, rs, rw_, ⟨hp, q⟩, ks⟩ => ((d hp).ok W ck).run pins s σ H D I ⟨E, env, h, rs, rw_, q, ks⟩⟩⟩
end
section
variable {K : PySem.W.Frag} {C D : Addr} {b : Bool} {T : String}
theorem kit_ref (hd : PySem.W.hasDictIn K C = true) (ht : PySem.W.typeIn K (.ref C) = some (.type "type")) (h : PySem.W.subIn K (.ref D) (.ref C) = some b) (hb : b = true ∨ D ≠ C) : PySem.W.kitOne K (.ref D) (.ref C) = some b := by
  obtain ⟨cd, hc, _⟩ := PySem.W.any_some hd
  have e2 : ((PySem.W.clsIn K C).isSome && PySem.W.typeIn K (.ref C) == some (.type "type")) = true := by rw [hc, ht] <;> rfl
  have e3 : PySem.W.kitCls K (.ref D) (.ref C) = some b := by
    unfold PySem.W.kitCls
    dsimp only
    rw [if_pos e2, h]
  unfold PySem.W.kitOne
  by_cases q : (Value.ref D == Value.ref C) = true
  · rw [if_pos q]
    rcases hb with hb | hb
    · rw [hb]
    · exact absurd (Value.ref.inj (beq_iff_eq.mp q)) hb
  · rw [if_neg q, e3]
theorem kit_typ (hm : PySem.W.kitMeta T = true) (h : PySem.W.subIn K (.ref D) (.type T) = some b) : PySem.W.kitOne K (.ref D) (.type T) = some b := by
  unfold PySem.W.kitOne PySem.W.kitCls
  have q : ¬ (Value.ref D == Value.type T) = true := by
    intro z
    have := beq_iff_eq.mp z
    cases this
  rw [if_neg q]
  dsimp only
  rw [if_pos hm, h]
end
/-! ### a, b = x, y -/
section
variable {X : Cx} {i j : Nat} {x y : Str} {a b : Expr} {ws : WA} {px py pt pt2 pos : Pos} {kt k2 : Nat}
def wPar (i j : Nat) (ws : WA) : WS := fun E env h => ws env h (fun ds h1 => match ds with
  | [x, y] => E.nx ((env.set i (some x)).set j (some y)) h1
  | _ => False) (fun x h1 => E.rx x env h1)
theorem ds_par (hN : X.N.Nodup) (ha : DA X [a, b] ws) (hc : X.calm = true := by rfl) (hi : X.N[i]? = some x := by rfl) (hj : X.N[j]? = some y := by rfl) (hij : i ≠ j := by decide)
    (hx : X.env.scope.names.lookup x = some .local := by rfl) (hy : X.env.scope.names.lookup y = some .local := by rfl)
    (hw : swappedStores [.Tuple [.Name x px, .Name y py] kt pt] (.Tuple [a, b] k2 pt2) X.env = pure (some [x, y]) := by rfl)
    (hs : swapsWithSole [.Tuple [.Name x px, .Name y py] kt pt] (.Tuple [a, b] k2 pt2) pos.line X.env = pure false := by rfl) :
    DS X (.Assign [.Tuple [.Name x px, .Name y py] kt pt] (.Tuple [a, b] k2 pt2) pos) (wPar i j ws) :=
  ⟨fun W ck => (ps_par hc hN hi hj hij hx hy (ha.ok W ck) hw hs).imp fun D σ H ⟨E, env, h, rs, rw_, q, ks⟩ =>
    ⟨env, h, _, _, rs, rw_, q, fun ds h1 vs H1 p1 r1 rds q1 => by
      split at q1
      · rename_i d e
        cases rds with
        | cons r t =>
          cases t with
          | cons r2 t2 =>
            cases t2
            exact ⟨_, _, rfl, ks.nx _ h1 _ H1 p1 (((rs.mono p1).set i r).set j r2) r1 q1⟩
      · exact q1.elim, ks.kx rs⟩⟩
end
/-! ### x in l, by data -/
def gIn (neg : Bool) : G2 := fun x y h Q => match py h x, py h y with
  | some d, some (.list ds) => SeqAt.shaped d = true ∧ SeqAt.shaped (.list ds) = true ∧ Q (.bl (if neg = true then !ds.any (fun z => PyData.eqv z d) else ds.any fun z => PyData.eqv z d)) h
  | _, _ => False
section
variable {X : Cx}
theorem o_in (hu : X.A.units + 65 < cLine) : Op2 X (compareOp .In) (gIn false) := by
  refine ⟨_, op_inD hu, ?_⟩
  intro x y h Qn H vx vy Q rx ry rw_ q kq
  unfold gIn at q
  split at q
  · rename_i d ds e1 e2
    exact ⟨d, ds, pyD_ok (pyR_ok rw_ 3) rx e1, pyD_ok (pyR_ok rw_ 3) ry e2, q.1, q.2.1, kq.here rw_ (.bl _) q.2.2⟩
  · exact q.elim
theorem o_notin (hu : X.A.units + 65 < cLine) : Op2 X (compareOp .NotIn) (gIn true) := by
  refine ⟨_, op_notInD hu, ?_⟩
  intro x y h Qn H vx vy Q rx ry rw_ q kq
  unfold gIn at q
  split at q
  · rename_i d ds e1 e2
    exact ⟨d, ds, pyD_ok (pyR_ok rw_ 3) rx e1, pyD_ok (pyR_ok rw_ 3) ry e2, q.1, q.2.1, kq.here rw_ (.bl _) q.2.2⟩
  · exact q.elim
end
theorem room65 {k : Nat} {A : Around} (r : Room k A) : A.units + 65 < cLine := by have := r.un; omega
end DL
namespace DL
open PySem PySem.Spec PyProof.Rows L2
/-! ### t[::-1] of a tuple -/
theorem rev_adjust (n : Nat) : Builtin.Slice.sliceAdjust none none (-1) (n : Int) = ((n : Int) - 1, -1) := by
  unfold Builtin.Slice.sliceAdjust; rfl
theorem rev_places (n : Nat) : Builtin.Slice.slicePlaces ((n : Int) - 1) (-1) (-1) = n := by
  unfold Builtin.Slice.slicePlaces
  rw [if_neg (by decide)]
  by_cases h : 0 < n
  · rw [if_pos (by omega)]
    have : ((n : Int) - 1 - -1 - 1) / -(-1) + 1 = n := by
      have e : -(-1 : Int) = 1 := by decide
      rw [e, Int.ediv_one]; omega
    rw [this]; simp
  · have : n = 0 := by omega
    subst this
    rw [if_neg (by decide)]; rfl
theorem rev_pick (xs : Array Value) : ((List.range xs.size).filterMap fun (k : Nat) => xs[(((xs.size : Int) - 1) + (k : Int) * -1).toNat]?).toArray = xs.toList.reverse.toArray := by
  have e : (fun (k : Nat) => xs[(((xs.size : Int) - 1) + (k : Int) * -1).toNat]?) = (fun k => xs[k]?) ∘ fun k => xs.size - 1 - k := by
    funext k
    have e1 : (((xs.size : Int) - 1) + (k : Int) * -1).toNat = xs.size - 1 - k := by omega
    rw [e1]; rfl
  rw [e, ← List.filterMap_map, PySem.W.krv_range, List.filterMap_reverse, PySem.W.krv_all]
section
variable {prog : Program} {w : World} {A : Around} {E : Value → Shared → Prop} {s : Shared}
theorem applied_rev {sl : Addr} {vl vu vs : Value} {n : Nat} {Q : Int × Int × Nat → Shared → Prop} (hs : s.heap.IsSliceOf sl vl vu vs) (pl : IsPart vl none) (pu : IsPart vu none) (ps : IsPart vs (some (-1)))
    (h : Q ((n : Int) - 1, -1, n) s) : wpAny (model prog w) A (Builtin.Slice.sliceApplied (.ref sl) (pure (n : Int))) Q E s := by
  obtain ⟨os, hos, hcs, hds⟩ := hs
  unfold Builtin.Slice.sliceApplied Builtin.Slice.sliceFields
  refine wpAny_bind (wpAny_bind (wpAny_field hos hds (x := vl) rfl (wpAny_bind (wpAny_field hos hds (x := vu) rfl (wpAny_bind (wpAny_field hos hds (x := vs) rfl (wpAny_pure (wpAny_bind (HT.slicePart_ ps ?_)))))))))
  show wpAny _ _ (if ((-1 : Int) == 0) = true then _ else _) _ _ s
  rw [if_neg (by decide)]
  refine wpAny_bind (HT.slicePart_ pl (wpAny_bind (HT.slicePart_ pu (wpAny_bind (wpAny_pure ?_)))))
  show wpAny _ _ (match Builtin.Slice.sliceAdjust none none (-1) (n : Int) with | (lo, hi) => pure (lo, (-1 : Int), Builtin.Slice.slicePlaces lo hi (-1))) _ _ s
  rw [rev_adjust n]
  show wpAny _ _ (pure ((n : Int) - 1, (-1 : Int), Builtin.Slice.slicePlaces ((n : Int) - 1) (-1) (-1))) _ _ s
  rw [rev_places]; exact wpAny_pure h
theorem tuple_rev {t sl : Addr} {items : Array Value} {vl vu vs : Value} {Q : Value → Shared → Prop} (ht : IsTup s.heap t items) (hs : s.heap.IsSliceOf sl vl vu vs) (pl : IsPart vl none) (pu : IsPart vu none) (ps : IsPart vs (some (-1)))
    (h : Q (.ref s.heap.objs.size) { s with heap := s.heap.push { cls := .type "tuple", data := .seq items.toList.reverse.toArray } }) (hsz : items.size ≤ sizeLine) : wpAny (model prog w) A (getItem (.ref t) (.ref sl)) Q E s := by
  have hk : sizeOk (.seq items.toList.reverse.toArray) := by
    show items.toList.reverse.toArray.size ≤ sizeLine; simpa using hsz
  obtain ⟨os, hos, hcs, hds⟩ := id hs
  have hTs : s.TypeIs (.ref sl) "slice" := ⟨os, hos, hcs⟩
  unfold getItem
  first
    | refine wpAny_bind (wpAny_sequenceKey ht.typeIs (by decide) ?_)
    | refine wpAny_holding (wpAny_bind (wpAny_sequenceKey ht.typeIs (by decide) ?_))
    | refine wpAny_bind (wpAny_pure (wpAny_bind (wpAny_sequenceKey ht.typeIs (by decide) ?_)))
  refine wpAny_bind (wpAny_callSpecial?_slot (name := Str.ofString "__getitem__") ht.typeIs PyProof.Rows.slot_tuple_getitem (wpAny_call_entry PyProof.Rows.slot_tuple_getitem ht.typeIs entry_tuple_getitem ?_ (args_tuple_getitem _ _)))
  show wpAny _ _ (Builtin.Tuple.tupleItemsOf (.ref t) >>= _) _ _ s
  refine wpAny_bind (tupleItemsOf_ ht (wpAny_bind (wpAny_typeOf hTs ?_)))
  rw [if_pos (by decide)]
  refine wpAny_bind (applied_rev (n := items.size) hs pl pu ps ?_)
  have hno : ¬ ((((items.size : Int) - 1) == 0 && (-1 : Int) == 1 && items.size == items.size) = true) := by
    rw [show ((-1 : Int) == 1) = false from by decide, Bool.and_false, Bool.false_and]; exact Bool.false_ne_true
  show wpAny _ _ (if (((items.size : Int) - 1) == 0 && (-1 : Int) == 1 && items.size == items.size) = true then _ else _) _ _ s
  rw [if_neg hno, rev_pick]
  first
    | exact wpAny_bind (m := Builtin.Tuple.tupleExact _) (wpAny_newObj_type (wpAny_pure ⟨_, rfl, wpAny_pure h⟩) hk)
    | exact wpAny_bind (m := Builtin.Tuple.tupleExact _) (wpAny_newObj_type (wpAny_bind (wpAny_pure (wpAny_pure ⟨_, rfl, wpAny_pure h⟩))) hk)
    | exact wpAny_bind (wpAny_bind (m := Builtin.Tuple.tupleExact _) (wpAny_newObj_type (wpAny_pure (wpAny_pure ⟨_, rfl, wpAny_pure h⟩)) hk))
    | exact wpAny_bind (wpAny_bind (m := Builtin.Tuple.tupleExact _) (wpAny_newObj_type (wpAny_pure ⟨_, rfl, wpAny_pure h⟩) hk))
end
section
variable {X : Cx} {e : Expr} {w : WE} {pos : Pos}
def tRevA (K : PySem.W.Frag) (te : TE) : TE := fun σ H Q => te σ H fun x H1 => ∃ a xs, x = .ref a ∧ ((SqL K H1 a xs ∧ ∀ p, H1 p = none → Q (.ref p) (upd H1 p (.lst xs.reverse))) ∨ (SqT K H1 a xs ∧ NewT H1 Q xs.reverse))
theorem pe_revA {te : TE} {k : Nat} {p1 p2 p3 : Pos} (he : PE X e te) : PE X (.Subscript e (.Slice none none (some (.UnaryOp .USub (.Constant (.int 1) k p1) p2)) p3) pos) (tRevA X.K te) := ⟨fun pins s σ H Q I h => by
  refine Subscript_ (thn (he.run pins s σ H _ I h) fun v s1 hh => ?_)
  obtain ⟨x, H1, I1, r1, a, xs, ex, q⟩ := hh
  subst ex
  cases r1
  have hst : PO X (some (.UnaryOp .USub (.Constant (.int 1) k p1) p2)) (tPart (tUn (rU fun i => .int (-i)) (tC (.int 1)))) := po_some (pe_un un_neg pe_int)
  refine wpAny_Slice (thn (po_none.run pins s1 σ H1 (fun o H2 => o = none ∧ H2 = H1) I1 ⟨rfl, rfl⟩) fun vl s2 h2 => ?_)
  obtain ⟨l, H2, I2, pl, el, e2⟩ := h2
  subst el e2
  refine thn (po_none.run pins s2 σ H2 (fun o H3 => o = none ∧ H3 = H2) I2 ⟨rfl, rfl⟩) fun vu s3 h3 => ?_
  obtain ⟨u, H3, I3, pu, eu, e3⟩ := h3
  subst eu e3
  refine thn (hst.run pins s3 σ H3 (fun o H4 => o = some (-1) ∧ H4 = H3) I3 ⟨1, rfl, -1, rfl, rfl, rfl⟩) fun vs s4 h4 => ?_
  obtain ⟨o, H4, I4, ps, eo, e4⟩ := h4
  subst eo e4
  have I5 : Inv X pins σ H4 { s4 with heap := s4.heap.push { cls := .type "slice", data := .fields #[vl, vu, vs] } } := I4.kept (t' := s4.toks) fun b ob q => Heap.get?_push_of_some _ q
  show wpAny (model X.prog X.w) X.A (subscriptTail e (.Slice none none (some (.UnaryOp .USub (.Constant (.int 1) k p1) p2)) p3) (.ref a) (.ref s4.heap.objs.size)) (EP X pins σ Q) X.xe { s4 with heap := s4.heap.push { cls := .type "slice", data := .fields #[vl, vu, vs] } }
  rcases q with ⟨hx, q⟩ | ⟨hx, q⟩
  · obtain ⟨its, r, ht, hz⟩ := I5.list hx
    have hlen := r.length
    refine tail_any (ops := [.ref a, .ref s4.heap.objs.size]) ht.isList.typeIs (PySem.slot_list_getitem.lookup) (wpAny_getItem_list_slice ht.isList (Heap.IsSliceOf.new _ vl vu vs) pl pu ps (by decide) ?_ (by rw [List.size_toArray]; omega)) (by with_unfolding_all rfl)
    rw [PySem.W.krv_pick]
    exact ⟨.ref _, _, I5.laid (t' := s4.toks) (o := .lst xs.reverse) (fun b ob q => Heap.get?_push_of_some _ q) (Nat.le_refl _) ⟨by rw [List.length_reverse]; exact hz, _, 0, r.reverse, Heap.get?_push_size _ rfl⟩, rfl, q _ (I5.hok.fresh (Nat.le_refl _))⟩
  · obtain ⟨its, r, ht, hz⟩ := I5.tuple hx
    have hlen := r.length
    refine tail_any (ops := [.ref a, .ref s4.heap.objs.size]) ht.typeIs PyProof.Rows.slot_tuple_getitem.lookup (tuple_rev ht (Heap.IsSliceOf.new _ vl vu vs) pl pu ps ?_ (by rw [List.size_toArray]; omega)) (by with_unfolding_all rfl)
    exact I5.tnew (t' := s4.toks) (by rw [List.length_reverse]; exact hz) r.reverse q⟩
/-- xs[::-1] -/
def gRev (x : D) (h : DH) (Q : QD) : Prop := match x with
  | .tup xs => Q (.tup xs.reverse) h
  | x => gRevL x h Q
def wRev (w : WE) : WE := fun env h Q Qx => w env h (fun x h1 => gRev x h1 Q) Qx
theorem rev_ok {K : PySem.W.Frag} {H H1 : Hp} {x : D} {h1 : DH} {Qn : QD} {v : V} {Q : VK} (rd : RD K H1 x v) (p1 : Pe H H1) (r1 : RW K h1 H1) (q1 : gRev x h1 Qn) (kq : KQ K H Qn Q) :
    ∃ a xs, v = .ref a ∧ ((SqL K H1 a xs ∧ ∀ p, H1 p = none → Q (.ref p) (upd H1 p (.lst xs.reverse))) ∨ (SqT K H1 a xs ∧ NewT H1 Q xs.reverse)) := by
  cases x with
  | tup xs =>
    obtain ⟨a, vs, rfl, t, r⟩ := rd.tup_inv
    exact ⟨a, vs, rfl, .inr ⟨t.sqT, newT_ok p1 r1 r.reverse q1 kq⟩⟩
  | sl xs =>
    obtain ⟨a, vs, rfl, t, r⟩ := rd.sl_inv
    exact ⟨a, vs, rfl, .inl ⟨t.seq, fun p hp => newL_ok p1 r1 r.reverse q1 kq hp⟩⟩
  | ref a =>
    cases rd
    unfold gRev gRevL at q1
    dsimp only at q1
    split at q1
    · rename_i xs e
      obtain ⟨vs, hv, r⟩ := r1 _ _ e
      exact ⟨a, vs, rfl, .inl ⟨SqL.of hv, fun p hp => newL_ok p1 r1 r.reverse q1 kq hp⟩⟩
    · exact q1.elim
  | _ => exact q1.elim
theorem de_rev {k : Nat} {p1 p2 p3 : Pos} (he : DE X e w) : DE X (.Subscript e (.Slice none none (some (.UnaryOp .USub (.Constant (.int 1) k p1) p2)) p3) pos) (wRev w) :=
  ⟨fun W ck => (pe_revA (he.ok W ck)).imp fun σ H Q ⟨env, h, Qn, Qx, rs, rw_, q, kq, kx⟩ => ⟨env, h, _, Qx, rs, rw_, q, fun x h1 v H1 p1 r1 rd q1 => rev_ok rd p1 r1 q1 kq, kx⟩⟩
end
/-! ### tuple(reversed(x)) -/
section
variable {prog : Program} {w : World}
theorem no_len_rt : typeLookup (.type "reversed") "__len__" = pure none := by rw [typeLookup_type, builtinLookup_eq_fast]; kernel_rfl
theorem hint_rt : typeLookup (.type "reversed") "__length_hint__" = pure (some (.builtin "reversed.__length_hint__")) := by rw [typeLookup_type, builtinLookup_eq_fast]; kernel_rfl
theorem walks_rt {A : Around} (hh : A.handled = none) (I t : Addr) (hne : t ≠ I) (items : Array Value) (hz : items.size ≤ sizeLine) :
    WalksS prog w A I [I, t] [I] (fun a b => b = a) items.size (fun i v => items[items.size - 1 - i]? = some v) (fun i s => i ≤ items.size ∧ RT.IsRt s.heap I t ((items.size : Int) - 1 - (i : Int)) ∧ IsTup s.heap t items) where
  sub := fun b hb => by simp at hb; simp [hb]
  grefl := fun _ => rfl
  gtrans := fun _ _ _ a b => b.trans a
  frame := fun _ _ _ _ x _ hk => ⟨x.1, x.2.1.at fun o e => hk I (by simp) o e, by
    obtain ⟨o, e, r⟩ := x.2.2; exact ⟨o, hk t (by simp) o e, r⟩⟩
  item := fun i s Q E hi x hQ => by
    obtain ⟨_, hit, ht⟩ := x
    have e : (items.size : Int) - 1 - (i : Int) = ((items.size - 1 - i : Nat) : Int) := by omega
    rw [e] at hit
    have hx : items[items.size - 1 - i]? = some (items[items.size - 1 - i]'(by omega)) := Array.getElem?_eq_getElem (by omega)
    refine RT.next_rt_item hit ht hx hz fun h' hit' hs' => ?_
    have e2 : ((items.size - 1 - i : Nat) : Int) - 1 = (items.size : Int) - 1 - ((i + 1 : Nat) : Int) := by omega
    rw [e2] at hit'
    refine hQ _ _ hx ⟨hi, hit', ?_⟩ ⟨fun b o hb eo => (hs'.2 b (fun z => hb (by simp [z]))).trans eo, rfl, rfl, rfl, Nat.le_succ _⟩
    obtain ⟨o, eo, r⟩ := ht
    exact ⟨o, (hs'.2 t hne).trans eo, r⟩
  done := fun s Q E x hQ => by
    obtain ⟨_, hit, ht⟩ := x
    have e : (items.size : Int) - 1 - (items.size : Int) = -1 := by omega
    rw [e] at hit
    exact RT.next_rt_end hh hit fun h' he' => hQ _ ⟨fun b o hb eo => he' b o (fun h => hb (by simp [h])) eo, rfl, rfl, rfl, Nat.le_refl _⟩
  self := fun _ _ _ _ x hQ => RT.iter_rt x.2.1 hQ
theorem slot_rt_hint : Slot "reversed" "__length_hint__" "reversed.__length_hint__" := .of (owner := "reversed") (n := "__length_hint__") (by rw [typeLookup_type, builtinLookup_eq_fast]; kernel_rfl)
  (by decide +kernel) (by decide +kernel) (by decide +kernel) (by first | exact .inl (by decide +kernel) | exact .inr (by decide +kernel)) (by rw [isSubtype_type]; kernel_rfl)
theorem entry_rt_hint : entryFor table "reversed.__length_hint__" = some Builtin.«reversed.__length_hint__» := by
  first | exact entryFor_of_tree (by kernel_rfl) | exact entryFor_of_fast (by kernel_rfl)
theorem args_rt_hint (a : Value) : argsOk "reversed.__length_hint__" ⟨[a], []⟩ := by
  unfold argsOk; rw [signature?_of (id := "reversed.__length_hint__") (n := ['_', '_', 't', 'n', 'i', 'h', '_', 'h', 't', 'g', 'n', 'e', 'l', '_', '_']) (o := ['d', 'e', 's', 'r', 'e', 'v', 'e', 'r']) (by kernel_rfl) RT.owner_rt]; kernel_rfl
theorem call_hint {A : Around} {E : Value → Shared → Prop} {s : Shared} {it t : Addr} {items : Array Value} {Q : Value → Shared → Prop} (hit : RT.IsRt s.heap it t ((items.size : Int) - 1)) (ht : IsTup s.heap t items) (hn : items.size ≤ sizeLine)
    (h : ∀ tk tk', s.toks ≤ tk' → Q (.int (items.size : Int) tk) { s with toks := tk' }) : wpAny (model prog w) A (call (.builtin "reversed.__length_hint__") [.ref it]) Q E s := by
  obtain ⟨o, ho, hc, hd⟩ := id hit
  have hl := line63
  refine wpAny_call_entry slot_rt_hint hit.typeIs entry_rt_hint ?_ (args_rt_hint _)
  unfold Builtin.«reversed.__length_hint__»
  refine wpAny_bind (wpAny_of_eq (a := Value.ref it) rfl (wpAny_bind (wpAny_field ho hd (x := .ref t) rfl ?_)))
  rw [if_neg (by simp)]
  refine wpAny_bind (len_tuple ht (by omega) ?_)
  refine wpAny_bind (wpAny_of_eq (a := some (items.size : Int)) rfl ?_)
  refine wpAny_bind (wpAny_field (s := { s with toks := s.toks + 1 + 1 }) ho hd (x := rawInt ((items.size : Int) - 1)) rfl ?_)
  show wpAny _ _ (if (items.size : Int) < ((items.size : Int) - 1) + 1 then _ else _) _ _ _
  rw [if_neg (by omega), show ((items.size : Int) - 1) + 1 = items.size from by omega]
  unfold retInt
  exact wpAny_bind (wpAny_mkInt (wpAny_pure ⟨_, rfl, h _ _ (by show s.toks ≤ s.toks + 1 + 1 + 1; omega)⟩))
theorem collect_rt {A : Around} {E : Value → Shared → Prop} {s : Shared} {it t : Addr} {items : Array Value} {Q : List Value → Shared → Prop} (hh : A.handled = none) (hit : RT.IsRt s.heap it t ((items.size : Int) - 1)) (ht : IsTup s.heap t items) (hne : t ≠ it) (hn : items.size ≤ sizeLine)
    (hQ : ∀ (s' : Shared) (acc : Array Value), Moved [it] (fun a b => b = a) s s' → ItemsOf (fun i v => items[items.size - 1 - i]? = some v) acc items.size → Q acc.toList s') :
    wpAny (model prog w) A (collect (.ref it)) Q E s := by
  have W := walks_rt (prog := prog) (w := w) (A := A.in1) hh it t hne items hn
  obtain ⟨oi, hoi, hci⟩ := id hit
  obtain ⟨ot, hot, hct⟩ := id ht
  have hSi : s.heap.objs.size ≠ it := Nat.ne_of_gt (Heap.lt_size hoi)
  have hSt : s.heap.objs.size ≠ t := Nat.ne_of_gt (Heap.lt_size hot)
  have hSf : s.heap.objs.size ∉ [it, t] := by simp [hSi, hSt]
  unfold collect
  refine wpAny_bind (wpAny_runValue (codeAny_builtin F.entry_proto_collect ?_)); rw [Around.under_plainId F.plain_proto_collect _]
  show wpAny _ A.in1 (newList [] >>= fun l' => again (.builtin "list.__iadd__" ⟨[l', .ref it], []⟩)) _ _ s
  refine wpAny_bind (wpAny_newObj_type (wpAny_pure ⟨plainId_quiet F.plain_list_iadd _, codeAny_builtin F.entry_list_iadd ?_⟩)); rw [Around.under_plainId F.plain_list_iadd _]
  generalize hs1 : ({ s with heap := s.heap.push { cls := .type "list", data := .seq ([] : List Value).toArray } } : Shared) = s1
  have hp1 : ∀ b o, s.heap.get? b = some o → s1.heap.get? b = some o := fun b o e => by rw [← hs1]; exact Heap.get?_push_of_some _ e
  have hS1 : s1.heap.get? s.heap.objs.size = some { cls := .type "list", data := .seq ([] : List Value).toArray } := by rw [← hs1]; exact Heap.get?_push_size _ rfl
  have hit1 : RT.IsRt s1.heap it t ((items.size : Int) - 1) := hit.at fun o e => hp1 _ _ e
  have ht1 : IsTup s1.heap t items := ⟨ot, hp1 _ _ hot, hct⟩
  have hT : s1.TypeIs (.ref it) "reversed" := hit1.typeIs
  have h1 : Builtin.List.listSameRef (.ref s.heap.objs.size) (.ref it) = false := by simp [Builtin.List.listSameRef, hSi]
  show wpAny _ A.in1 (Builtin.List.listExtendWith (.ref s.heap.objs.size) (.ref it) (.ref s.heap.objs.size)) _ _ _
  unfold Builtin.List.listExtendWith
  refine wpAny_bind (wpAny_typeOf hT ?_); rw [if_neg (by rw [h1]; decide)]
  refine wpAny_bind (RT.iter_rt hit1 (wpAny_bind (wpAny_holding ?_)))
  unfold Builtin.List.listLengthHint
  refine wpAny_bind (wpAny_specialOf hT no_len_rt ?_)
  show wpAny _ A.in1 (specialOf (Value.ref it) (Str.ofString "__length_hint__") >>= _) _ _ _
  refine wpAny_bind (wpAny_specialOf hT hint_rt ?_)
  generalize hid : ("reversed.__length_hint__" : String) = id0
  wp_delta
  rw [show splitId id0 = some ("reversed", "__length_hint__") from by subst hid; decide +kernel]
  subst hid
  refine wpAny_bind (wpAny_isInstance (b := true) hT (by rw [isSubtype_type]; kernel_rfl) ?_)
  rw [if_neg (by decide)]
  change wpAny _ _ (ite _ _ _) _ _ _
  rw [if_neg (by decide +kernel)]
  refine wpAny_bind (wpAny_rule ?_)
  rw [slot_rt_hint.bind]
  refine wpAny_bind (wpAny_pure ?_)
  show wpAny _ _ ((call (.builtin "reversed.__length_hint__") [.ref it]).attempt >>= _) _ _ _
  refine wpAny_bind (wpAny_attempt (call_hint hit1 ht1 hn fun tk tk' htk => ?_))
  have hline := line63
  have hs : sizeLine = 16777216 := sizeLine_eq
  have ea : asInt? (.int (items.size : Int) tk) = pure (some (items.size : Int)) := rfl
  dsimp only
  rw [ea]
  refine wpAny_bind ?_
  refine wpAny_pure ?_
  dsimp only
  rw [if_neg (by
    have e1 : decide (-(2 ^ 63 : Int) ≤ (items.size : Int)) = true := decide_eq_true (by omega)
    have e2 : decide ((items.size : Int) < 2 ^ 63) = true := decide_eq_true (by omega)
    unfold Builtin.List.listFitsIndex
    rw [e1, e2]; decide)]
  rw [if_neg (by omega)]
  rw [if_neg (by rw [Int.toNat_natCast, notLongL hn]; exact Bool.false_ne_true)]
  refine wpAny_pure ?_
  have e0 : ((items.size : Nat) : Int) - 1 - ((0 : Nat) : Int) = (items.size : Int) - 1 := by omega
  by_cases hz : items.size = 0
  · rw [if_neg (by rw [hz]; decide +kernel)]
    refine wpAny_pure ⟨plainId_quiet F.plain_extend_loop _, codeAny_extend_loopS W hn _ hSf _ items.size 0 { s1 with toks := tk' } _ _ rfl (Nat.zero_le _) ⟨Nat.zero_le _, by rw [e0]; exact hit1, ht1⟩ hS1 (ItemsOf.nil _) fun s' acc' c' hm hS' hacc => ?_⟩
    change wpAny _ A (load s.heap.objs.size >>= _) _ _ s'
    refine wpAny_bind (wpAny_load hS' (wpAny_pure (hQ s' acc' ?_ hacc)))
    subst hs1
    exact Moved.drop_new (o := { cls := .type "list", data := .seq ([] : List Value).toArray }) (tk := tk') hm htk
  · have hb : ((items.size : Int) != 0) = true := by simpa using hz
    rw [if_pos (by rw [hb]; rfl)]
    refine wpAny_bind (wpAny_rule (wpAny_bind ?_))
    change wpAny _ A.in1 (updateSeq s.heap.objs.size (·.push .none) >>= fun _ => updateSeq s.heap.objs.size (·.pop)) _ _ _
    refine wpAny_bind (wpAny_updateSeq (s := { s1 with toks := tk' }) hS1 rfl ?_)
    have hS2 := Heap.get?_update_self (Obj.mapSeq (·.push Value.none)) hS1 rfl
    refine wpAny_updateSeq hS2 rfl ?_
    have hS3 := Heap.get?_update_self (Obj.mapSeq (·.pop)) hS2 rfl
    have oth : ∀ b o, b ≠ s.heap.objs.size → s1.heap.get? b = some o → ((s1.heap.update s.heap.objs.size (Obj.mapSeq (·.push Value.none))).update s.heap.objs.size (Obj.mapSeq (·.pop))).get? b = some o := fun b o hb e =>
      (Heap.get?_update_other _ _ (Ne.symm hb)).trans ((Heap.get?_update_other _ _ (Ne.symm hb)).trans e)
    have hit3 : RT.IsRt ((s1.heap.update s.heap.objs.size (Obj.mapSeq (·.push Value.none))).update s.heap.objs.size (Obj.mapSeq (·.pop))) it t ((items.size : Int) - 1) := hit1.at fun o e => oth _ _ (Ne.symm hSi) e
    have ht3 : IsTup ((s1.heap.update s.heap.objs.size (Obj.mapSeq (·.push Value.none))).update s.heap.objs.size (Obj.mapSeq (·.pop))) t items := ⟨ot, oth _ _ (Ne.symm hSt) (hp1 _ _ hot), hct⟩
    generalize hh3 : (s1.heap.update s.heap.objs.size (Obj.mapSeq (·.push Value.none))).update s.heap.objs.size (Obj.mapSeq (·.pop)) = h3 at hS3 oth hit3 ht3 ⊢
    refine wpAny_pure ⟨plainId_quiet F.plain_extend_loop _, codeAny_extend_loopS W hn _ hSf _ items.size 0 { s1 with heap := h3, toks := tk' } _ _ rfl (Nat.zero_le _) ⟨Nat.zero_le _, by rw [e0]; exact hit3, ht3⟩ hS3 (ItemsOf.nil _) fun s' acc' c' hm hS' hacc => ?_⟩
    change wpAny _ A (load s.heap.objs.size >>= _) _ _ s'
    refine wpAny_bind (wpAny_load hS' (wpAny_pure (hQ s' acc' ?_ hacc)))
    have hm2 : Moved (s.heap.objs.size :: [it]) (fun a b => b = a) { s1 with toks := tk' } s' := ⟨fun b o hb e => hm.heap b o hb (oth b o (fun z => hb (by simp [z])) e), hm.gens, hm.drawn, hm.os, hm.toks⟩
    subst hs1
    exact Moved.drop_new (o := { cls := .type "list", data := .seq ([] : List Value).toArray }) (tk := tk') hm2 htk
theorem code_tuple_rt {A : Around} {E : Value → Shared → Prop} {s : Shared} {it t : Addr} {items : Array Value} {Q : Value → Shared → Prop} (hh : A.handled = none) (hit : RT.IsRt s.heap it t ((items.size : Int) - 1)) (ht : IsTup s.heap t items) (hne : t ≠ it) (hn : items.size ≤ sizeLine)
    (h : ∀ (s' : Shared) (acc : Array Value), Moved [it] (fun a b => b = a) s s' → ItemsOf (fun i v => items[items.size - 1 - i]? = some v) acc items.size → Q (.ref s'.heap.objs.size) { s' with heap := s'.heap.push { cls := .type "tuple", data := .seq acc } }) :
    codeAny (model prog w) A (.call (.builtin "tuple.__new__") ⟨[.type "tuple", .ref it], []⟩) (wants Q E) s := by
  refine codeAny_of_tree ?_
  change wpAny _ A.in1 (do checkBuiltinCall "tuple.__new__" ⟨[.type "tuple", .ref it], []⟩; again (.builtin "tuple.__new__" ⟨[.type "tuple", .ref it], []⟩)) _ _ s
  refine wpAny_bind (wpAny_of_eq (F.newCall_tuple_1 _) (wpAny_pure ⟨plainId_quiet F.plain_tuple_new _, codeAny_builtin F.entry_tuple_new ?_⟩)); rw [Around.under_plainId F.plain_tuple_new _]
  have hsub := sub_tuple_self; have hinit := init_tuple_lookup; have hmh := madeHere_tuple
  have hTI : s.TypeIs (.ref it) "reversed" := hit.typeIs
  have hh1 : A.in1.handled = none := hh
  wp_walk using wpAny_typeOf hTI, collect_rt (A := A.in1) hh1 hit ht hne hn
  intro s' acc hm hacc
  have e : acc.toList.toArray = acc := by simp
  rw [e]
  change wpAny _ _ (Builtin.Tuple.tupleExact acc >>= fun v => ret v) _ _ _
  unfold Builtin.Tuple.tupleExact
  refine wpAny_bind (wpAny_newObj_type ?_ (by show acc.size ≤ sizeLine; rw [hacc.1]; exact hn)); refine wpAny_pure ?_
  exact h s' acc hm hacc
theorem call_tuple_rt {A : Around} {E : Value → Shared → Prop} {s : Shared} {it t : Addr} {items : Array Value} {Q : Value → Shared → Prop} (hh : A.handled = none) (hit : RT.IsRt s.heap it t ((items.size : Int) - 1)) (ht : IsTup s.heap t items) (hne : t ≠ it) (hn : items.size ≤ sizeLine)
    (h : ∀ (s' : Shared) (acc : Array Value), Moved [it] (fun a b => b = a) s s' → ItemsOf (fun i v => items[items.size - 1 - i]? = some v) acc items.size → Q (.ref s'.heap.objs.size) { s' with heap := s'.heap.push { cls := .type "tuple", data := .seq acc } }) :
    wpAny (model prog w) A (call (.type "tuple") [.ref it]) Q E s := by
  refine callType_codes (Q₁ := fun obj s1 => s1.TypeIs obj "tuple" ∧ Q obj s1) F.called_tuple (F.typeCall_tuple_1 _) F.entry_object_init (code_tuple_rt (A := A.in1) hh hit ht hne hn fun s' acc hm hacc => ⟨⟨_, Heap.get?_push_size _ rfl, rfl⟩, h s' acc hm hacc⟩) fun obj s1 h1 => ?_
  exact ⟨h1.1, F.args_object_init_2 obj _, object_init_meets F.called_tuple.init.lookup F.called_tuple.made (by decide) prog w A.in1 _ s1 ⟨h1.1, rfl, h1.2⟩⟩
end
section
variable {X : Cx} {e : Expr} {we : WE}
def tTupRevA (K : PySem.W.Frag) (te : TE) : TE := fun σ H Q => te σ H fun v H1 => ∃ (a : Addr) (xs : List V), v = .ref a ∧ (SqL K H1 a xs ∨ SqT K H1 a xs) ∧ NewT H1 Q xs.reverse
theorem pe_tupRevA {te : TE} {p p2 pos pos2 : Pos} (hc : X.calm = true) (hg : Gl X "tuple") (hm : X.mg "tuple" = none) (hg2 : Gl X "reversed") (hm2 : X.mg "reversed" = none) (he : PE X e te)
    (hs : starEach [e] X.env = (false, eval e X.env) :: starEach [] X.env) (hs2 : starEach [.Call (.Name "reversed" p2) [e] [] pos2] X.env = (false, eval (.Call (.Name "reversed" p2) [e] [] pos2) X.env) :: starEach [] X.env) :
    PE X (.Call (.Name "tuple" p) [.Call (.Name "reversed" p2) [e] [] pos2] [] pos) (tTupRevA X.K te) := ⟨fun pins s σ H Q I h => by
  refine Call_ (ld_blt I hg hm boot_tuple (PyProof.Rows.callWith_type1 (args_cons (Call_ (ld_blt I hg2 hm2 PyProof.Rows.boot_reversed (PyProof.Rows.callWith_type1 (args_cons (thn (he.run pins s σ H _ I h) fun u s1 hh => args_nil ?_) hs) hs rfl))) hs2) hs2 rfl))
  obtain ⟨v, H1, I1, r1, a, xs, ev, hq, q⟩ := hh
  subst ev
  cases (show u = Value.ref a from r1)
  have hfree : H1 s1.heap.objs.size = none := I1.hok.fresh (Nat.le_refl _)
  obtain ⟨f0, f1, f2, f3, f4, f5⟩ := I1.fpOk (H' := H1) (b := s1.heap.objs.size) (Nat.le_refl _) hfree
  rcases hq with hq | hq
  · obtain ⟨its, rv, p', hz⟩ := I1.list hq
    refine call_reversed_list p'.isList (args_nil ?_)
    have I2 : Inv X pins σ H1 { s1 with heap := s1.heap.push (revObj a ((its.toArray.size : Int) - 1)) } := I1.kept (t' := s1.toks) fun b o e => Heap.get?_push_of_some _ e
    obtain ⟨ol, hol, _⟩ := id p'.isList
    have hn : its.toArray.size ≤ sizeLine := by rw [List.size_toArray, ← rv.length]; exact hz
    refine RT.call_tuple_rev (s := { s1 with heap := s1.heap.push (revObj a ((its.toArray.size : Int) - 1)) }) (I1.ok.hd hc) ⟨_, Heap.get?_push_size _ rfl, rfl, rfl⟩ (p'.isList.push _) (Nat.ne_of_lt (Heap.lt_size hol)) hn fun h' tk acc hk hi => ?_
    have I3 : Inv X pins σ H1 { s1 with heap := h', toks := tk } := I2.turned (t' := tk) (fun b o hb e => hk b o hb e) f0 f1 f3 f4 f5
    have key := I3.tnew (t' := tk) (its := acc.toList) (by rw [List.length_reverse]; exact hz) (RT.vals_rev rv hi) q
    unfold tupObj at key
    rw [Array.toArray_toList] at key
    exact key
  · obtain ⟨its, rv, p', hz⟩ := I1.tuple hq
    have hl := rv.length
    have hn := line63
    have hsz : its.toArray.size ≤ sizeLine := by rw [List.size_toArray, ← rv.length]; exact hz
    refine RT.call_reversed_tup p' (fun A E Q k => len_tuple p' (by simp only [List.size_toArray] <;> omega) k) (args_nil ?_)
    have I2 : Inv X pins σ H1 { s1 with heap := s1.heap.push (RT.rtObj a ((its.toArray.size : Int) - 1)), toks := s1.toks + 1 + 1 } := I1.kept (t' := s1.toks + 1 + 1) fun b o e => Heap.get?_push_of_some _ e
    obtain ⟨ot, hot, hct⟩ := id p'
    refine call_tuple_rt (s := { s1 with heap := s1.heap.push (RT.rtObj a ((its.toArray.size : Int) - 1)), toks := s1.toks + 1 + 1 }) (I1.ok.hd hc) ⟨_, Heap.get?_push_size _ rfl, rfl, rfl⟩ ⟨ot, Heap.get?_push_of_some _ hot, hct⟩ (Nat.ne_of_lt (Heap.lt_size hot)) hsz fun s' acc hm hi => ?_
    obtain ⟨h', g', d', t', o'⟩ := s'
    have ed : d' = s1.drawn := hm.drawn
    have eo : o' = s1.os := hm.os
    subst ed eo
    have eg : g' = s1.gens := hm.gens
    subst eg
    have I3 : Inv X pins σ H1 { s1 with heap := h', toks := t' } := I2.turned (t' := t') (fun b o hb e => hm.heap b o (by simpa using hb) e) f0 f1 f3 f4 f5
    have key := I3.tnew (t' := t') (its := acc.toList) (by rw [List.length_reverse]; exact hz) (RT.vals_rev rv hi) q
    unfold tupObj at key
    rw [Array.toArray_toList] at key
    exact key⟩
/-- tuple(reversed(e)), e a list or a tuple -/
def wTupRev (we : WE) : WE := fun env h Q Qx => we env h (fun d h1 => ItQ h1 d fun xs => Q (.tup xs.reverse) h1) Qx
theorem de_tupRev {p p2 pos pos2 : Pos} (hg : Gl X "tuple") (hm : X.mg "tuple" = none) (hg2 : Gl X "reversed") (hm2 : X.mg "reversed" = none) (he : DE X e we) (hc : X.calm = true := by rfl)
    (hs : starEach [e] X.env = (false, eval e X.env) :: starEach [] X.env := by rfl) (hs2 : starEach [.Call (.Name "reversed" p2) [e] [] pos2] X.env = (false, eval (.Call (.Name "reversed" p2) [e] [] pos2) X.env) :: starEach [] X.env := by rfl) :
    DE X (.Call (.Name "tuple" p) [.Call (.Name "reversed" p2) [e] [] pos2] [] pos) (wTupRev we) :=
  ⟨fun W ck => (pe_tupRevA hc hg hm hg2 hm2 (he.ok W ck) hs hs2).imp fun σ H Q ⟨env, h, Qn, Qx, rs, rw_, q, kq, kx⟩ => ⟨env, h, _, Qx, rs, rw_, q, fun d h1 v H1 p1 r1 rd q1 => by
    obtain ⟨xs, e1, q2⟩ := q1.get
    obtain ⟨a, vs, rfl, s, r⟩ := items_ok rd r1 e1
    exact ⟨a, vs, rfl, s, newT_ok p1 r1 r.reverse q2 kq⟩, kx⟩⟩
end
end DL
namespace DL
open PySem PySem.Spec PyProof.Rows L2
/-! short names -/
abbrev gMinus : G2 := gI0 fun i j => .int (i - j)
abbrev gFdiv : G2 := gI CDiv fun i j => .int (i / j)
abbrev gMod : G2 := gI (fun _ j => 0 < j) fun i j => .int (i % j)
abbrev gPow : G2 := gI CPow fun i j => .int (i ^ j.toNat)
abbrev gShl : G2 := gI CPow fun i j => .int (i * 2 ^ j.toNat)
abbrev gShr : G2 := gI (fun _ j => 0 ≤ j) fun i j => .int (i / 2 ^ j.toNat)
abbrev gBand : G2 := gI0 fun i j => .int (Builtin.bitAnd i j)
abbrev gLt : G2 := gI0 fun i j => .bl (decide (i < j))
abbrev gLe : G2 := gI0 fun i j => .bl (decide (i ≤ j))
abbrev gGt : G2 := gI0 fun i j => .bl (decide (j < i))
abbrev gGe : G2 := gI0 fun i j => .bl (decide (j ≤ i))
section
variable {X : Cx} {x : Str} {i : Int} {pos : Pos}
/-- a module's int -/
theorem de_gint (hm : ∃ t, X.mg x = some (.int i t)) (hg : Gl X x := by rfl) (hd : (x == ("__debug__" : Str)) = false := by decide) : DE X (.Name x pos) (wC (.int i)) := by
  obtain ⟨t, hm⟩ := hm
  exact de_const (v := .int i) (pe_glob hg hm ⟨t, rfl⟩ hd) fun _ => .int i
end
section
variable {P : Program} {w : World} {K : PySem.W.Frag} {mg : Str → Option Value} {base : Heap}
/-- a def of which nothing is asked -/
theorem fnD_none {k : Nat} {f : Addr} {fd : FuncData} {ps : List Str} : FnD P w K mg base k f fd ps (fun _ _ _ _ => False) :=
  ⟨fun _ _ _ _ ⟨_, _, _, _, _, _, _, z, _⟩ => z.elim, fun _ _ _ _ _ _ _ _ _ _ _ _ _ ⟨_, _, _, _, _, _, _, z, _⟩ => z.elim⟩
theorem ar_false {n : Nat} : Ar n (fun _ _ _ _ => False) := fun _ _ _ _ z => z.elim
/-- the end: the law's worth, at the script -/
def spLaw (K : PySem.W.Frag) : Sp := fun vs H Q _ => ∃ (a : Addr) (ns : List Int), vs = [.ref a] ∧ StL K H a (ns.map V.int) ∧ ns.length ≤ 63 ∧ ∀ H', Q (.bl true) H'
theorem law_of {k : Nat} {f : Addr} {fd : FuncData} {wf : WF} (F : FnD P w K mg base k f fd ["script"] wf) (h : ∀ ns : List Int, ns.length ≤ 63 → wf [.sl (ns.map D.int)] (fun _ => none) (fun d _ => d = .bl true) (fun _ _ => False)) :
    FnOk P w K mg base (L2.CX P w) k f fd ["script"] (spLaw K) :=
  FnOk.imp F fun vs H Q E ⟨a, ns, e, st, hl, q⟩ => by
    subst e
    refine ⟨rfl, [.sl (ns.map D.int)], fun _ => none, _, _, .cons (.sl st (RDs.ints ns)) .nil, fun _ _ z => (nomatch z), h ns hl, fun d h' v H' p r rd e => ?_, fun _ _ _ _ _ _ _ _ z => z.elim⟩
    subst e
    cases rd
    exact q H'
theorem stL_only {K : PySem.W.Frag} {H : Hp} {a : Addr} {xs : List V} (o : Only H) (s : SqL K H a xs) : StL K H a xs := by
  rcases s with (s | s) | s
  · rcases o a with z | ⟨_, _, z⟩ <;> (rw [s] at z; cases z)
  · exact .inl s
  · exact .inr s
/-- the row's walk, from the law's worth -/
theorem walk_law {l : PySem.W.OpenLaw} {k : Nat} {q : Program} {loose : List Str} {XP : (Str → Option Value) → Heap → Prop} {YP : World → Heap → Prop} {d : DefRec} {K : Params → PySem.W.Frag} (hn : l.most = some 63) (hdf : d.params.defaults = []) (hr : Room k callerA)
    (hY : ∀ (w : World) (h : Heap), YP w h → (K w.params).In h)
    (F : ∀ (w : World) (mg : Str → Option Value) (fa : Addr) (h : Heap), (K w.params).In h → h.Ns mainGlobals mg → mg d.name = some (.ref fa) →
      ∃ fd : FuncData, (∀ (s : Shared) (u : Value), BindsTo s fd ⟨[u], []⟩ [("script", u)]) ∧ ∀ base : Heap, (K w.params).In base → base.Ns mainGlobals mg → FnOk l.prog w (K w.params) mg base (L2.CX l.prog w) k fa fd ["script"] (spLaw (K w.params))) :
    PySem.W.WalkO q loose XP YP l.row.toRowW d [] (fun f vs => PySem.call f vs) :=
  L2.walk_of (n := 63) (k := k) (x := "script") (K := K) (CX := fun w => L2.CX l.prog w) (sp := fun w => spLaw (K w.params)) hn (by decide) hdf hr hY F (fun _ H a ns hl o hS => ⟨a, ns, rfl, stL_only o hS, hl, fun _ => rfl⟩)
    fun w H s e s' h => by obtain ⟨_, _, _, _, _, _, _, _, _, _, _, _, z⟩ := h; exact z.elim
end
end DL
namespace DL
open PySem PySem.Spec PyProof.Rows L2
/-! ### reckoning of worths, one statement at a time -/
theorem seq_i {s1 s2 : WS} {E : En} {env : Ev} {h : DH} (H : ∀ N : Ev → DH → Prop, (∀ e h', s2 E e h' → N e h') → s1 ⟨N, E.rt, E.bk, E.ct, E.rx⟩ env h) : wSeq s1 s2 E env h := H _ fun _ _ q => q
theorem def_i {np nn : Nat} {w : WS} {ds : List D} {h : DH} {Q : QD} {Qx : QX} (hl : ds.length = np)
    (H : ∀ E : En, (∀ d h' h2, Sub h2 h' → Q d h2 → E.rt d h') → (∀ x e h' h2, Sub h2 h' → Qx x h2 → E.rx x e h') → (∀ e h' h2, Sub h2 h' → Q .non h2 → E.nx e h') → w E (ds.map some ++ List.replicate (nn - np) none) h) : wDef np nn w ds h Q Qx :=
  ⟨hl, H _ (fun _ _ h2 s q => ⟨h2, s, q⟩) (fun _ _ _ h2 s q => ⟨h2, s, q⟩) (fun _ _ h2 s q => ⟨h2, s, q⟩)⟩
theorem for_ix {gd : DH → Prop} {g : WG} {b : WS} {E : En} {xs : List D} (I : Nat → Ev → DH → Prop) (hn : ∀ env h, I xs.length env h → E.nx env h)
    (hs : ∀ (i : Nat) (x : D) env h (N : Ev → DH → Prop), xs[i]? = some x → I i env h → (∀ e2 h2, gd h2 → I (i + 1) e2 h2 → N e2 h2) → g x env h fun e1 h1 => b ⟨N, E.rt, E.nx, N, E.rx⟩ e1 h1) :
    ∀ (env : Ev) (h : DH), I 0 env h → forW gd g b E xs env h := by
  have go : ∀ (ys : List D) (i : Nat), ys = xs.drop i → i ≤ xs.length → ∀ env h, I i env h → forW gd g b E ys env h := by
    intro ys
    induction ys with
    | nil =>
      intro i e hi env h hI
      have : xs.length ≤ i := by simpa using e.symm
      have z : i = xs.length := by omega
      subst z
      exact hn env h hI
    | cons y ys ih =>
      intro i e hi env h hI
      have hlt : i < xs.length := by
        rcases Nat.lt_or_ge i xs.length with q | q
        · exact q
        · rw [List.drop_eq_nil_of_le q] at e; cases e
      have e1 := List.drop_eq_getElem_cons hlt
      rw [e1] at e
      obtain ⟨e2, e3⟩ := List.cons.inj e
      have hx : xs[i]? = some y := by rw [List.getElem?_eq_getElem hlt, e2]
      exact hs i y env h _ hx hI fun e2 h2 gd2 I2 => ⟨gd2, ih (i + 1) e3 (by omega) e2 h2 I2⟩
  exact fun env h hI => go xs 0 (by simp) (by omega) env h hI
theorem upto_len (lo : Int) (n : Nat) : (upto lo n).length = n := by simp [upto]
theorem for_up {g : WG} {b : WS} {E : En} {n : Nat} (I : Nat → Ev → DH → Prop) (hn : ∀ env h, I n env h → E.nx env h)
    (hs : ∀ (i : Nat) env h (N : Ev → DH → Prop), i < n → I i env h → (∀ e2 h2, I (i + 1) e2 h2 → N e2 h2) → g (.int (i : Nat)) env h fun e1 h1 => b ⟨N, E.rt, E.nx, N, E.rx⟩ e1 h1) {env : Ev} {h : DH} (h0 : I 0 env h) :
    forW (fun _ => True) g b E (upto 0 n) env h := by
  refine for_ix (xs := upto 0 n) I (fun env h hI => hn env h (by rwa [upto_len] at hI)) (fun i x env h N hx hI hN => ?_) env h h0
  obtain ⟨hi, rfl⟩ := upto_get hx
  rw [Int.zero_add]
  exact hs i env h N hi hI fun e2 h2 I2 => hN e2 h2 trivial I2
theorem while_m {c : WT} {b : WS} {E : En} (I : Nat → Ev → DH → Prop)
    (hs : ∀ (m : Nat) env h (N : Ev → DH → Prop), I m env h → (∀ m' e2 h2, m' < m → I m' e2 h2 → N e2 h2) → c env h (fun k h1 => if k = true then b ⟨N, E.rt, E.nx, N, E.rx⟩ env h1 else E.nx env h1) (fun x h1 => E.rx x env h1)) :
    ∀ (n m : Nat) env h, m < n → I m env h → whileW c b E n env h := by
  intro n
  induction n with
  | zero => intro m env h hm; omega
  | succ n ih =>
    intro m env h hm hI
    exact hs m env h _ hI fun m' e2 h2 hlt I2 => ih m' e2 h2 (by omega) I2
theorem while_i {c : WT} {b : WS} {E : En} (I : Nat → Ev → DH → Prop) (m : Nat)
    (hs : ∀ (m : Nat) env h (N : Ev → DH → Prop), I m env h → (∀ m' e2 h2, m' < m → I m' e2 h2 → N e2 h2) → c env h (fun k h1 => if k = true then b ⟨N, E.rt, E.nx, N, E.rx⟩ env h1 else E.nx env h1) (fun x h1 => E.rx x env h1))
    {env : Ev} {h : DH} (h0 : I m env h) : wWhile c b E env h := ⟨m + 1, while_m I hs (m + 1) m env h (by omega) h0⟩
section
variable {env : Ev} {h : DH} {Q : QD} {Qx : QX} {i : Nat} {a : Option D} {d : D} {E : En}
theorem zVS : wVar (i + 1) (a :: env) h Q Qx = wVar i env h Q Qx := rfl
theorem zVZ : wVar 0 (some d :: env) h Q Qx = Q d h := rfl
theorem zSS {l : Ev} : List.set (a :: l) (i + 1) (some d) = a :: List.set l i (some d) := rfl
theorem zSZ {l : Ev} : List.set (a :: l) 0 (some d) = some d :: l := rfl
theorem exSub {h' : DH} (q : Q d h') : ∃ h2, Sub h2 h' ∧ Q d h2 := ⟨h', .refl _, q⟩
theorem zItems_r {p : Addr} : items h (.ref p) = (match h p with | some (.lst xs) => some xs | _ => none) := rfl
theorem zItems_t {xs : List D} : items h (.tup xs) = some xs := rfl
theorem zItems_s {xs : List D} : items h (.sl xs) = some xs := rfl
theorem zItQ_i {d : D} {k : List D → Prop} : ItQ h d k = (match items h d with | some ys => k ys | none => False) := rfl
theorem zLenQ_r {p : Addr} {k : Nat → Prop} : LenQ h (.ref p) k = (match items h (.ref p) with | some ys => k ys.length | none => False) := rfl
theorem zLenQ_tup {xs : List D} {k : Nat → Prop} : LenQ h (.tup xs) k = k xs.length := rfl
theorem zLenQ_sl {xs : List D} {k : Nat → Prop} : LenQ h (.sl xs) k = k xs.length := rfl
theorem zLstQ_r {p : Addr} {k : Addr → List D → Prop} : lstQ h (.ref p) k = (match h p with | some (.lst xs) => k p xs | _ => False) := rfl
theorem zGIx_r {p : Addr} {i : Int} : gIx (.ref p) (.int i) h Q = (match h p with | some (.lst xs) => QAt h Q (atI xs i) | _ => False) := rfl
theorem zGIx_tup {xs : List D} {i : Int} : gIx (.tup xs) (.int i) h Q = QAt h Q (atI xs i) := rfl
theorem zGIx_sl {xs : List D} {i : Int} : gIx (.sl xs) (.int i) h Q = QAt h Q (atI xs i) := rfl
theorem zGSl_r {p : Addr} {lo hi : Option Int} : gSl (.ref p) lo hi h Q = (match h p with | some (.lst xs) => NewL h (cutD xs lo hi) Q | _ => False) := rfl
theorem zGSl_tup {xs : List D} {lo hi : Option Int} : gSl (.tup xs) lo hi h Q = Q (.tup (cutD xs lo hi)) h := rfl
theorem zGRev_r {p : Addr} : gRev (.ref p) h Q = (match h p with | some (.lst xs) => NewL h xs.reverse Q | _ => False) := rfl
theorem zGRev_tup {xs : List D} : gRev (.tup xs) h Q = Q (.tup xs.reverse) h := rfl
theorem zSrcQ_r {p : Addr} {k : Src → Prop} : srcQ h (.ref p) k = (match h p with | some (.lst xs) => k ⟨xs, fun h' => h' p = some (.lst xs)⟩ | _ => False) := rfl
theorem zSrcI_r {p : Addr} {k : Src → Prop} : srcI h (.ref p) k = srcQ h (.ref p) k := rfl
theorem zSrcI_sl {xs : List D} {k : Src → Prop} : srcI h (.sl xs) k = srcQ h (.sl xs) k := rfl
theorem zSrcI_tup {xs : List D} {k : Src → Prop} : srcI h (.tup xs) k = k ⟨xs, fun _ => True⟩ := rfl
theorem zSrcI_otup {xs : List D} {k : Src → Prop} : srcI h (.otup xs) k = k ⟨xs, fun _ => True⟩ := rfl
theorem zSrcQ_tup {xs : List D} {k : Src → Prop} : srcQ h (.tup xs) k = k ⟨xs, fun _ => True⟩ := rfl
theorem zTyQ_r {p : Addr} {k : String → Prop} : TyQ h (.ref p) k = (match (match h p with | some (.lst _) => some "list" | some (.dK _) => some "dict" | some (.dT _) => some "dict" | _ => none) with | some t => k t | none => False) := by
  unfold TyQ tyD
  rfl
theorem zFldQ_r {p : Addr} {m : Str} {k : D → Prop} : fldQ h (.ref p) m k = (match h p with | some (.ins C fs) => (match fs.lookup m with | some v => k v | none => False) | _ => False) := rfl
theorem zQAt_some {d : D} : QAt h Q (some d) = Q d h := rfl
theorem zGAdd_int {i j : Int} : gAdd (.int i) (.int j) h Q = Q (.int (i + j)) h := rfl
theorem zGAdd_tup {xs ys : List D} : gAdd (.tup xs) (.tup ys) h Q = (xs.length + ys.length ≤ sizeLine ∧ Q (.tup (xs ++ ys)) h) := rfl
theorem zGI_int {C : Int → Int → Prop} {g : Int → Int → D} {i j : Int} : gI C g (.int i) (.int j) h Q = (C i j ∧ Q (g i j) h) := rfl
theorem zGTimes_int {i j : Int} : gTimes (.int i) (.int j) h Q = (CMul i j ∧ Q (.int (i * j)) h) := rfl
theorem zGTimes_tup {xs : List D} {k : Int} : gTimes (.tup xs) (.int k) h Q = ((0 ≤ k ∧ k ≤ 1000 ∧ xs.length ≤ 1000) ∧ Q (.tup (List.replicate k.toNat xs).flatten) h) := rfl
theorem zGEq_bl {neg : Bool} {i j : Bool} : gEq neg (.bl i) (.bl j) h Q = Q (.bl (if neg = true then !decide (i = j) else decide (i = j))) h := by
  have e : PyData.eqv (.bool i) (.bool j) = decide (i = j) := by
    show (i == j) = decide (i = j)
    cases i <;> cases j <;> rfl
  show (SeqAt.shaped (.bool i) = true ∧ SeqAt.shaped (.bool j) = true ∧ _) = _
  rw [e]
  have s1 : ∀ i, SeqAt.shaped (.bool i) = true := fun _ => rfl
  rw [s1, s1]
  simp
theorem zGI0_int {g : Int → Int → D} {i j : Int} : gI0 g (.int i) (.int j) h Q = Q (g i j) h := rfl
theorem zGIs_non {neg : Bool} : gIs neg .non .non h Q = Q (.bl (!neg)) h := rfl
theorem zGIs_int {neg : Bool} {i : Int} : gIs neg (.int i) .non h Q = Q (.bl neg) h := rfl
theorem zGIs_tup {neg : Bool} {xs : List D} : gIs neg (.tup xs) .non h Q = Q (.bl neg) h := rfl
theorem zGIs_ref {neg : Bool} {p : Addr} : gIs neg (.ref p) .non h Q = Q (.bl neg) h := rfl
theorem zGIs_str {neg : Bool} {p : Str} : gIs neg (.str p) .non h Q = Q (.bl neg) h := rfl
theorem zGIs_bl {neg a b : Bool} : gIs neg (.bl a) (.bl b) h Q = Q (.bl (if neg = true then !decide (a = b) else decide (a = b))) h := rfl
theorem zGIs_bln {neg a : Bool} : gIs neg (.bl a) .non h Q = Q (.bl neg) h := rfl
theorem zGEq_int {neg : Bool} {i j : Int} : gEq neg (.int i) (.int j) h Q = Q (.bl (if neg = true then !decide (i = j) else decide (i = j))) h := by
  have e : PyData.eqv (.int i) (.int j) = decide (i = j) := by
    show (i == j) = decide (i = j)
    by_cases q : i = j <;> simp [q]
  show (SeqAt.shaped (.int i) = true ∧ SeqAt.shaped (.int j) = true ∧ _) = _
  rw [e]
  have s1 : ∀ i, SeqAt.shaped (.int i) = true := fun _ => rfl
  rw [s1, s1]
  simp
theorem zTyQ_int {i : Int} {k : String → Prop} : TyQ h (.int i) k = k "int" := rfl
theorem zTyQ_non {k : String → Prop} : TyQ h .non k = k "NoneType" := rfl
theorem zTyQ_bl {b : Bool} {k : String → Prop} : TyQ h (.bl b) k = k "bool" := rfl
theorem zTyQ_str {b : Str} {k : String → Prop} : TyQ h (.str b) k = k "str" := rfl
theorem zTyQ_tup {xs : List D} {k : String → Prop} : TyQ h (.tup xs) k = k "tuple" := rfl
theorem atN {α : Type} {xs : List α} {i : Nat} : atI xs (i : Int) = xs[i]? := by
  unfold atI ixN
  by_cases q : i < xs.length
  · have e1 : ¬ ((i : Int) < 0) := by omega
    simp [e1, q]
  · have e1 : ¬ ((i : Int) < 0) := by omega
    simp [e1, q]
theorem atI_lt {α : Type} {xs : List α} {z : Int} (h0 : 0 ≤ z) : atI xs z = xs[z.toNat]? := by
  obtain ⟨n, rfl⟩ := Int.eq_ofNat_of_zero_le h0
  rw [Int.toNat_natCast]; exact atN
section
variable {wa wb we wo : WE} {ws : WA} {wt ta tb : WT} {wi : WI} {g : WG} {gs : WGs} {g2 : G2} {w1 w2 : WS} {m : Str} {T : String} {Cs : List Addr} {C : Addr} {wf : WF} {QT : Bool → DH → Prop} {QA : List D → DH → Prop} {QO : Option Int → DH → Prop} {ds : List D} {QG : Ev → DH → Prop}
theorem zESet : wSet i we E env h = we env h (fun d h1 => E.nx (env.set i (some d)) h1) (fun x h1 => E.rx x env h1) := rfl
theorem zEExpr : wExpr we E env h = we env h (fun _ h1 => E.nx env h1) (fun x h1 => E.rx x env h1) := rfl
theorem zERet : wRet we E env h = we env h E.rt (fun x h1 => E.rx x env h1) := rfl
theorem zERetN : wRetN E env h = E.rt .non h := rfl
theorem zENext : wNext E env h = E.nx env h := rfl
theorem zEPass : wPass E env h = E.nx env h := rfl
theorem zEBrk : wBrk E env h = E.bk env h := rfl
theorem zECnt : wCnt E env h = E.ct env h := rfl
theorem zEIfS : wIfS wt w1 w2 E env h = wt env h (fun b h1 => if b = true then w1 E env h1 else w2 E env h1) (fun x h1 => E.rx x env h1) := rfl
theorem zEAsg : wAsg we g E env h = we env h (fun d h1 => g d env h1 E.nx) (fun x h1 => E.rx x env h1) := rfl
theorem zEFor : wFor wi g w1 E env h = wi env h (fun s h1 => s.gd h1 ∧ forW s.gd g w1 E s.xs env h1) (fun x h1 => E.rx x env h1) := rfl
theorem zEFldS : wFldS Cs wo we m E env h = we env h (fun d h1 => wo env h1 (fun o h2 => ∃ a C fs, o = .ref a ∧ h2 a = some (.ins C fs) ∧ C ∈ Cs ∧ fs.length < 1000 ∧ E.nx env (dup h2 a (.ins C (putD m d fs)))) (fun x h1 => E.rx x env h1)) (fun x h1 => E.rx x env h1) := rfl
theorem zERaise : wRaise C E env h = E.rx (.own C) env h := rfl
theorem zEAugI {f : Int → Int → Int} : wAugI i f we E env h = wVar i env h (fun d _ => match d with
  | .int a => we env h (fun d h1 => match d with
    | .int b => E.nx (env.set i (some (.int (f a b)))) h1
    | _ => False) (fun x h1 => E.rx x env h1)
  | _ => False) (fun _ _ => False) := by
  unfold wAugI wVar
  cases env[i]? with
  | none => rfl
  | some o =>
    cases o with
    | none => rfl
    | some d => cases d <;> rfl
theorem zEC : wC d env h Q Qx = Q d h := rfl
theorem zENil : wNil env h QA Qx = QA [] h := rfl
theorem zECons : wCons wa ws env h QA Qx = wa env h (fun d h1 => ws env h1 (fun ds h2 => QA (d :: ds) h2) Qx) Qx := rfl
theorem zETup : wTup ws env h Q Qx = ws env h (fun ds h1 => ds.length ≤ sizeLine ∧ Q (.tup ds) h1) Qx := rfl
theorem zELst : wLst ws env h Q Qx = ws env h (fun ds h1 => ds.length ≤ sizeLine ∧ NewL h1 ds Q) Qx := rfl
theorem zEOp2 : wOp2 g2 wa wb env h Q Qx = wa env h (fun x h1 => wb env h1 (fun y h2 => g2 x y h2 Q) Qx) Qx := rfl
theorem zEB : wB we env h QT Qx = we env h (fun d h1 => match d with
  | .bl b => QT b h1
  | _ => False) Qx := rfl
theorem zETru : wTru we env h QT Qx = we env h (fun d h1 => Tru d h1 QT) Qx := rfl
theorem zTBl {b : Bool} : Tru (.bl b) h QT = QT b h := rfl
theorem zTNon : Tru .non h QT = QT false h := rfl
theorem zTInt {i : Int} : Tru (.int i) h QT = QT (i != 0) h := rfl
theorem zTTup {xs : List D} : Tru (.tup xs) h QT = QT (!xs.isEmpty) h := rfl
theorem zEAnd : wAnd ta tb env h QT Qx = ta env h (fun c h1 => if c = true then tb env h1 QT Qx else QT false h1) Qx := rfl
theorem zEOr : wOr ta tb env h QT Qx = ta env h (fun c h1 => if c = true then QT true h1 else tb env h1 QT Qx) Qx := rfl
theorem zENot : wNot ta env h QT Qx = ta env h (fun c h1 => QT (!c) h1) Qx := rfl
theorem zEAndV : wAndV wa wb env h Q Qx = wa env h (fun d h1 => match d with
  | .bl c => if c = true then wb env h1 Q Qx else Q (.bl false) h1
  | _ => False) Qx := rfl
theorem zEOrV : wOrV wa wb env h Q Qx = wa env h (fun d h1 => match d with
  | .bl c => if c = true then Q (.bl true) h1 else wb env h1 Q Qx
  | _ => False) Qx := rfl
theorem zENotV : wNotV wa env h Q Qx = wa env h (fun d h1 => match d with
  | .bl c => Q (.bl (!c)) h1
  | _ => False) Qx := rfl
theorem zEIf : wIf wt wa wb env h Q Qx = wt env h (fun c h1 => if c = true then wa env h1 Q Qx else wb env h1 Q Qx) Qx := rfl
theorem zEIsi : wIsi we T env h Q Qx = we env h (fun d h1 => TyQ h1 d fun t => Q (.bl (isiB t T)) h1) Qx := rfl
theorem zECB {gc : GC} : wCB gc ws env h Q Qx = ws env h (fun ds h1 => gc ds h1 Q) Qx := rfl
theorem zECall : wCall wf ws env h Q Qx = ws env h (fun ds h1 => wf ds h1 Q Qx) Qx := rfl
theorem zEFld : wFld Cs wo m env h Q Qx = wo env h (fun d h1 => fldQ h1 d m (fun v => Q v h1) ∧ ∀ a C fs, d = .ref a → h1 a = some (.ins C fs) → C ∈ Cs) Qx := rfl
theorem zEMeth : wMeth C m wf wo ws env h Q Qx = wo env h (fun d h1 => insQ h1 d C m ∧ ws env h1 (fun ds h2 => wf (d :: ds) h2 Q Qx) Qx) Qx := rfl
theorem zEMake : wMake C wf ws env h Q Qx = ws env h (fun ds h1 => ∀ p, h1 p = none → wf (.ref p :: ds) (dup h1 p (.ins C [])) (fun v h2 => v = .non ∧ Q (.ref p) h2) Qx) Qx := rfl
theorem zEAppend : wAppend wo ws env h Q Qx = wo env h (fun d h1 => lstQ h1 d (fun _ _ => True) ∧ ws env h1 (fun ds h2 => One (fun x => lstQ h2 d fun a xs => xs.length < sizeLine ∧ Q .non (dup h2 a (.lst (xs ++ [x])))) ds) Qx) Qx := rfl
theorem zEPop : wPop wo env h Q Qx = wo env h (fun d h1 => lstQ h1 d fun a xs => QAt (dup h1 a (.lst xs.dropLast)) Q xs[xs.length - 1]?) Qx := rfl
theorem zESl {wl wh : WO} : wSl we wl wh env h Q Qx = we env h (fun x h1 => wl env h1 (fun lo h2 => wh env h2 (fun hi h3 => gSl x lo hi h3 Q) Qx) Qx) Qx := rfl
theorem zENoP : wNoP env h QO Qx = QO none h := rfl
theorem zEPart : wPart we env h QO Qx = we env h (fun d h1 => match d with
  | .int i => QO (some i) h1
  | _ => False) Qx := rfl
theorem zENeg : wNeg we env h Q Qx = we env h (fun d h1 => match d with
  | .int i => Q (.int (-i)) h1
  | _ => False) Qx := rfl
theorem zERev : wRev we env h Q Qx = we env h (fun x h1 => gRev x h1 Q) Qx := rfl
theorem zETupRev : wTupRev we env h Q Qx = we env h (fun d h1 => ItQ h1 d fun xs => Q (.tup xs.reverse) h1) Qx := rfl
theorem zEChain {g g' : G2} {wc : WE} : wChain g g' wa wb wc env h Q Qx = wa env h (fun x h1 => wb env h1 (fun y h2 => g x y h2 fun z h3 => match z with
  | .bl k => if k = true then wc env h3 (fun w h4 => g' y w h4 Q) Qx else Q (.bl false) h3
  | _ => False) Qx) Qx := rfl
theorem zEItems {QI : Src → DH → Prop} : wItems we env h QI Qx = we env h (fun d h1 => srcI h1 d fun s => QI s h1) Qx := rfl
theorem zERng1 {QI : Src → DH → Prop} : wRng1 ws env h QI Qx = ws env h (fun ds h1 => match ds with
  | [.int j] => -(2 ^ 62) ≤ j ∧ j < 2 ^ 62 ∧ QI ⟨upto 0 j.toNat, fun _ => True⟩ h1
  | _ => False) Qx := rfl
theorem zERng2 {QI : Src → DH → Prop} : wRng2 ws env h QI Qx = ws env h (fun ds h1 => match ds with
  | [.int i, .int j] => (-(2 ^ 62) ≤ i ∧ i < 2 ^ 62 ∧ -(2 ^ 62) ≤ j ∧ j < 2 ^ 62) ∧ QI ⟨upto i (j - i).toNat, fun _ => True⟩ h1
  | _ => False) Qx := rfl
theorem zELc : wLc wi i wt we env h Q Qx = wi env h (fun s h1 => ∀ p, h1 p = none → s.gd (dup h1 p (.lst [])) ∧ lcW p s.gd i wt we env (fun h2 => Q (.ref p) h2) s.xs (dup h1 p (.lst []))) Qx := rfl
theorem zELen {xs : List D} : gLen xs h Q = One (fun d => LenQ h d fun n => Q (.int n) h) xs := rfl
theorem zEOne {P : D → Prop} : One P [d] = P d := rfl
theorem zEAbs {j : Int} : gAbs [.int j] h Q = Q (.int (if j < 0 then -j else j)) h := rfl
theorem zEIntC {j : Int} : gIntC [.int j] h Q = Q (.int j) h := rfl
theorem zEListC {xs : List D} : gListC xs h Q = One (fun d => ItQ h d fun ys => NewL h ys Q) xs := rfl
theorem zETupC {xs : List D} : gTupC xs h Q = One (fun d => ItQ h d fun ys => Q (.tup ys) h) xs := rfl
theorem zEMaxT {xs : List D} : gMaxT [.tup xs] h Q = (match intsOf xs with
    | some (n :: ns) => Q (.int (maxI n ns)) h
    | _ => False) := rfl
theorem zEIsE {a : Addr} {b : Bool} : wIsE i a b env h Q Qx = (env[i]? = some (some (.ref a)) ∧ Q (.bl b) h) := rfl
theorem zETry {wb : WS} {cm : List (Addr × Bool)} {wsu : Addr → XC → WS} : wTry wb cm i wsu E env h = wb { E with rx := fun x e' h' => (∃ b, (x.cls, b) ∈ cm ∧ if b = true then ∀ a, wsu a x { nx := fun e2 h2 => E.nx (e2.set i none) h2, rt := E.rt, bk := fun e2 h2 => E.bk (e2.set i none) h2, ct := fun e2 h2 => E.ct (e2.set i none) h2, rx := fun _ _ _ => False } (e'.set i (some (.ref a))) h' else E.rx x e' h') } env h := rfl
theorem zEPar {i j : Nat} : wPar i j ws E env h = ws env h (fun ds h1 => match ds with
  | [x, y] => E.nx ((env.set i (some x)).set j (some y)) h1
  | _ => False) (fun x h1 => E.rx x env h1) := rfl
theorem zEYes : wYes env h QT Qx = QT true h := rfl
theorem zEAllL {f : List Bool → Bool} {p : Addr} : gAllL f [.ref p] h Q = (match h p with
    | some (.lst ys) => match blsOf ys with
      | some bs => Q (.bl (f bs)) h
      | none => False
    | _ => False) := rfl
theorem zEGN : gN i d env h QG = QG (env.set i (some d)) h := rfl
theorem zEGNl : gNl ds env h QG = (ds = [] ∧ QG env h) := rfl
theorem zEGCn : gCn g gs (d :: ds) env h QG = g d env h fun e1 h1 => gs ds e1 h1 QG := rfl
theorem zEGT {n : Nat} : gT n gs (.tup ds) env h QG = (ds.length = n ∧ gs ds env h QG) := rfl
theorem zEGTo {n : Nat} : gT n gs (.otup ds) env h QG = (ds.length = n ∧ gs ds env h QG) := rfl
theorem zEGSub {wi : WE} : gSub wo wi d env h QG = wo env h (fun o h1 => wi env h1 (fun i h2 => lstQ h2 o fun a xs => ixQ xs.length i fun j => QG env (dup h2 a (.lst (xs.set j d)))) fun _ _ => False) fun _ _ => False := rfl
theorem zEIxQ {n : Nat} {z : Int} {k : Nat → Prop} : ixQ n (.int z) k = (match ixN n z with
    | some j => k j
    | none => False) := rfl
theorem zENewL {ds : List D} : NewL h ds Q = ∀ p, h p = none → Q (.ref p) (dup h p (.lst ds)) := rfl
end
end
section
variable {α : Type} {a b c d : α} {l : List α}
theorem zAt0 : atI (a :: l) 0 = some a := atN (i := 0)
theorem zAt1 : atI (a :: b :: l) 1 = some b := atN (i := 1)
theorem zAt2 : atI (a :: b :: c :: l) 2 = some c := atN (i := 2)
theorem zAt3 : atI (a :: b :: c :: d :: l) 3 = some d := atN (i := 3)
theorem ixN_nat {n i : Nat} (h : i < n) : ixN n (i : Int) = some i := by
  unfold ixN
  have e0 : (0 : Int) ≤ (i : Int) := by omega
  have e1 : (i : Int) < (n : Int) := by omega
  rw [if_pos e0, if_pos e1, Int.toNat_natCast]
theorem zIx0 : ixN (0 + 1) 0 = some 0 := rfl
theorem cut_to {xs : List D} {k : Nat} : cutD xs none (some (k : Int)) = xs.take k := by
  unfold cutD
  rw [HT.sIx_none, HT.sIx_nat]
  simp only [List.drop_zero, Nat.sub_zero]
  rcases Nat.le_total k xs.length with q | q
  · rw [Nat.min_eq_left q]
  · rw [Nat.min_eq_right q, List.take_of_length_le (Nat.le_refl _), List.take_of_length_le q]
theorem cut_fr {xs : List D} {k : Nat} : cutD xs (some (k : Int)) none = xs.drop k := by
  unfold cutD
  rw [HT.sIx_none, HT.sIx_nat]
  rcases Nat.le_total k xs.length with q | q
  · rw [Nat.min_eq_left q]
    exact List.take_of_length_le (by simp)
  · rw [Nat.min_eq_right q, List.drop_eq_nil_of_le (Nat.le_refl _), List.drop_eq_nil_of_le q]
    simp
theorem zL0 : (([] : List α).length ≤ sizeLine) = True := eq_true (by show 0 ≤ 16777216; omega)
theorem zL1 : ([a].length ≤ sizeLine) = True := eq_true (by show 1 ≤ 16777216; omega)
theorem zL2 : ([a, b].length ≤ sizeLine) = True := eq_true (by show 2 ≤ 16777216; omega)
theorem zL3 : ([a, b, c].length ≤ sizeLine) = True := eq_true (by show 3 ≤ 16777216; omega)
theorem zL4 : ([a, b, c, d].length ≤ sizeLine) = True := eq_true (by show 4 ≤ 16777216; omega)
theorem cdiv {i j : Int} (h0 : 0 < j) (h1 : j < 1073741824) : CDiv i j := ⟨h0, h1⟩
theorem cmulR {i j : Int} (h0 : 0 ≤ j) (h1 : j < 1073741824) : CMul i j := .inr (by
  have : (2 : Int) ^ 64 = 18446744073709551616 := by decide
  omega)
theorem cmulL {i j : Int} (h0 : 0 ≤ i) (h1 : i < 1073741824) : CMul i j := .inl (by
  have : (2 : Int) ^ 64 = 18446744073709551616 := by decide
  omega)
theorem small62 {i : Int} (h0 : -1073741824 ≤ i) (h1 : i < 1073741824) : -(2 ^ 62) ≤ i ∧ i < 2 ^ 62 := by
  have : (2 : Int) ^ 62 = 4611686018427387904 := by decide
  omega
end
theorem lc_i {p : Addr} {gd : DH → Prop} {i : Nat} {wt : WT} {we : WE} {env : Ev} {Q : DH → Prop} {xs : List D} (J : Nat → DH → Prop) (hn : ∀ hh, J xs.length hh → Q hh)
    (hs : ∀ (j : Nat) (x : D) (hh : DH) (N : DH → Prop), xs[j]? = some x → J j hh → (∀ h', J (j + 1) h' → N h') →
      wt (env.set i (some x)) hh (fun b h2 => if b = true then we (env.set i (some x)) h2 (fun y h3 => lstQ h3 (.ref p) fun _ acc => acc.length < sizeLine ∧ gd (dup h3 p (.lst (acc ++ [y]))) ∧ N (dup h3 p (.lst (acc ++ [y])))) (fun _ _ => False) else gd h2 ∧ N h2) (fun _ _ => False)) :
    ∀ hh, J 0 hh → lcW p gd i wt we env Q xs hh := by
  have go : ∀ (ys : List D) (j : Nat), ys = xs.drop j → j ≤ xs.length → ∀ h, J j h → lcW p gd i wt we env Q ys h := by
    intro ys
    induction ys with
    | nil =>
      intro j e hj h hJ
      have : xs.length ≤ j := by simpa using e.symm
      have z : j = xs.length := by omega
      subst z
      exact hn h hJ
    | cons y ys ih =>
      intro j e hj h hJ
      have hlt : j < xs.length := by
        rcases Nat.lt_or_ge j xs.length with q | q
        · exact q
        · rw [List.drop_eq_nil_of_le q] at e; cases e
      have e1 := List.drop_eq_getElem_cons hlt
      rw [e1] at e
      obtain ⟨e2, e3⟩ := List.cons.inj e
      have hx : xs[j]? = some y := by rw [List.getElem?_eq_getElem hlt, e2]
      exact hs j y h _ hx hJ fun h2 J2 => ih (j + 1) e3 (by omega) h2 J2
  exact fun h hJ => go xs 0 (by simp) (by omega) h hJ
end DL
namespace DL
open PySem PySem.Spec PyProof.Rows L2
/-! ### x.bit_length() -/
section
variable {X : Cx} {o e : Expr} {wo : WE} {apos pos : Pos}
def wBits (wo : WE) : WE := fun env h Q Qx => wo env h (fun d h1 => match d with
  | .int i => Q (.int (Builtin.Int.intBits i : Nat)) h1
  | _ => False) Qx
theorem de_bits (ho : DE X o wo) (hbase : attributeBase o "bit_length" X.env (eval o X.env) = eval o X.env := by rfl) (hline : (apos.endLine == pos.line) = true := by rfl) : DE X (.Call (.Attribute o "bit_length" apos) [] [] pos) (wBits wo) :=
  ⟨fun W ck => (pe_bits (ho.ok W ck) hbase hline).imp fun σ H Q ⟨env, h, Qn, Qx, rs, rw_, q, kq, kx⟩ =>
    ⟨env, h, _, Qx, rs, rw_, q, fun d h1 v H1 p1 r1 rd q1 => by
      cases d <;> try exact q1.elim
      exact ⟨_, rd.int_inv, kq _ _ _ _ p1 r1 (.int _) q1⟩, kx⟩⟩
end
/-! ### xs += ys -/
theorem _root_.L2.PIp.or {X : Cx} {op : Operator} {r r' : TIp} (h : PIp X op r) (h' : PIp X op r') : PIp X op (fun x y H Q => r x y H Q ∨ r' x y H Q) := by
  intro pins s σ H x y v u Q I rx ry q
  rcases q with q | q
  · exact h pins s σ H x y v u Q I rx ry q
  · exact h' pins s σ H x y v u Q I rx ry q
def ipL : TIp := fun x y H Q => ∃ l b xs zs, x = .ref l ∧ y = .ref b ∧ H l = some (.lst xs) ∧ H b = some (.lst zs) ∧ xs.length + zs.length ≤ sizeLine ∧ Q (.ref l) (upd H l (.lst (xs ++ zs)))
theorem ip_addL {X : Cx} : PIp X .Add ipL := by
  intro pins s σ H x y v u Q I rx ry h
  obtain ⟨l, b, xs, zs, rfl, rfl, hH, hB, hz, q⟩ := h
  cases rx
  cases ry
  obtain ⟨z, its, n, r, hl, e⟩ := I.lstM hH
  obtain ⟨z2, its2, n2, r2, hl2, e2⟩ := I.lstM hB
  have ha : s.TypeIs (.ref l) "list" := ⟨_, e, rfl⟩
  have hb : s.TypeIs (.ref b) "list" := ⟨_, e2, rfl⟩
  have hfill : fillsNumberSlot (.type "list") "add" = pure false :=
    PySem.fillsNumberSlot_seq (id := "list.__add__") (r := none) PySem.F.slot_list_add.lookup (by decide +kernel) (by rw [typeLookup_type, builtinLookup_eq_fast]; kernel_rfl) rfl
  have hfi : fillsInplaceSlot (.type "list") "add" (Operator.Add == .Add) = pure false := by
    unfold fillsInplaceSlot
    show (typeLookup (.type "list") (dunderI "add") >>= fun fi => pure (fi.isSome && !isSeqSlot fi)) = pure false
    rw [PySem.F.slot_list_iadd.lookup]; rfl
  have hsi : seqSlot? (.type "list") (dunderI "add") = pure (some (.builtin "list.__iadd__")) :=
    PySem.seqSlot_of (T := "list") (name := dunderI "add") (id := "list.__iadd__") PySem.F.slot_list_iadd.lookup (by decide +kernel)
  unfold inplaceOp
  refine wpAny_holding ?_
  refine wpAny_bind (wpAny_typeOf ha (wpAny_bind (wpAny_of_eq hfi ?_)))
  show wpAny _ _ (if false = true then _ else _) _ _ s
  rw [if_neg Bool.false_ne_true]
  refine wpAny_bind (wpAny_binaryOp1_none (nm := "add") ha hb hfill ?_)
  refine wpAny_bind (wpAny_of_eq hsi ?_)
  refine wpAny_bind (wpAny_rule ?_)
  refine call_meets F.slot_list_iadd ha F.entry_list_iadd (F.args_list_iadd_2 _ _) (PySem.AutoSeq1.list___iadd___list_list_0 l its.toArray n b its2.toArray n2 ?_ ?_ ?_) ⟨e, e2, ?_⟩
  · rw [List.size_toArray, List.size_toArray, ← hl, ← hl2, notLongL hz, Bool.and_false]; exact Bool.false_ne_true
  · rw [List.size_toArray, ← hl]; omega
  · rw [List.size_toArray, List.size_toArray, ← hl, ← hl2]; omega
  · have I' := I.lset (its' := its ++ its2) (t' := s.toks) (f := fun x => x ++ its2.toArray) hH e (by simp) (r.append r2) (by rw [List.length_append]; exact hz)
    exact ⟨.ref l, _, I', rfl, q⟩
section
variable {X : Cx} {e : Expr} {we : WE} {x : Str} {pos pos' : Pos}
def wAugL (i : Nat) (we : WE) : WS := fun E env h => match env[i]? with
  | some (some (.ref a)) => we env h (fun d h1 => lstQ h1 d fun _ ys => lstQ h1 (.ref a) fun _ xs => xs.length + ys.length ≤ sizeLine ∧ E.nx (env.set i (some (.ref a))) (dup h1 a (.lst (xs ++ ys)))) (fun x h1 => E.rx x env h1)
  | _ => False
theorem ds_addL {i : Nat} (hN : X.N.Nodup) (he : DE X e we) (hi : X.N[i]? = some x := by rfl) (hx : Loc X.env.scope x := by first | exact Or.inl rfl | exact Or.inr rfl) (hf : X.fn x = true ∨ X.env.scope.names.lookup x = some .local := by first | exact .inl rfl | exact .inr rfl) :
    DS X (.AugAssign (.Name x pos') .Add e pos) (wAugL i we) := ⟨fun W ck => (ps_aug hN hi hx (he.ok W ck) ip_addL hf).imp fun D σ H ⟨E, env, h, rs, rw_, q, ks⟩ => by
  unfold wAugL at q
  split at q
  · rename_i a e1
    obtain ⟨v, e2, rv⟩ := rs.get e1
    cases rv
    refine ⟨_, e2, env, h, _, _, rs, rw_, q, fun d h1 v H1 p1 r1 rd q1 => ?_, ks.kx rs⟩
    obtain ⟨b, ys, rfl, eb, q1⟩ := q1.get
    obtain ⟨a', xs, ea', ea, hz, q1⟩ := q1.get
    cases ea'
    cases rd
    obtain ⟨vs, hv, rr⟩ := r1 _ _ ea
    obtain ⟨ws, hw, rr2⟩ := r1 _ _ eb
    have w : Wr (H1 a) := by rw [hv]; exact True.intro
    have pw : Pe H1 (upd H1 a (.lst (vs ++ ws))) := Pe.wr w
    exact ⟨a, b, vs, ws, rfl, rfl, hv, hw, by rw [← rr.length, ← rr2.length]; exact hz, ks.nx _ _ _ _ (p1.trans pw) ((rs.mono (p1.trans pw)).set i (.ref a)) (r1.set w (show RO X.K _ a (.lst (xs ++ ys)) from ⟨_, upd_same, (rr.append rr2).mono pw⟩)) q1⟩
  · exact q.elim⟩
end
/-! ### xs[i] += e, ints in a list -/
section
variable {X : Cx}
theorem get_list : PGet X (fun o i H Q => ∃ p xs k v, o = .ref p ∧ i = .int k ∧ SqL X.K H p xs ∧ atI xs k = some v ∧ Q v H) := by
  intro pins s σ H x y v u Q I rx ry h
  obtain ⟨p, xs, i, z, rfl, rfl, hq, he, q⟩ := h
  cases rx
  obtain ⟨t, rfl⟩ := ry
  obtain ⟨its, r, pl, hz⟩ := I.list hq
  obtain ⟨j, h1, h2, h3, h4, h5⟩ := atI_get he
  obtain ⟨w, ew, rw'⟩ := r.get h2
  have hl := r.length
  have hn := line63
  have fin : EP X pins σ Q w s := ⟨z, H, I, rw', q⟩
  by_cases h0 : 0 ≤ i
  · have hj : i.toNat = j := by
      rw [seqIndex_of h0 h5] at h1
      exact Option.some.inj h1
    exact wpAny_getItem_list pl.isList h0 (by omega) (by rw [hj]; simpa using ew) fin
  · have hj : (i + (its.toArray.size : Int)).toNat = j := by
      rw [seqIndex_neg (by omega) h4] at h1
      rw [List.size_toArray, ← hl]
      exact Option.some.inj h1
    exact wpAny_getItem_list_neg pl.isList (by omega) (by rw [List.size_toArray] <;> omega) (by omega) (by rw [hj]; simpa using ew) fin
variable {o i e : Expr} {wo wi we : WE} {tpos pos : Pos}
def wAugS (f : Int → Int → Int) (wo wi we : WE) : WS := fun E env h => wo env h (fun o h1 => wi env h1 (fun ix h2 => gIx o ix h2 fun z h3 => we env h3 (fun d h4 => match z, d with
  | .int x, .int y => lstQ h4 o fun a xs => ixQ xs.length ix fun j => E.nx env (dup h4 a (.lst (xs.set j (.int (f x y)))))
  | _, _ => False) (fun x h' => E.rx x env h')) (fun x h' => E.rx x env h')) (fun x h' => E.rx x env h')
theorem augS_ok {W : WX} {f : Int → Int → Int} (D : Ends) (σ : L2.St) (H : Hp) (q : tS X.K W (fun E env h => wo env h (fun o h1 => wi env h1 (fun ix h2 => lstQ h2 o fun _ _ => gIx o ix h2 fun z h3 => we env h3 (fun d h4 => match z, d with
  | .int x, .int y => lstQ h4 o fun a xs => ixQ xs.length ix fun j => E.nx env (dup h4 a (.lst (xs.set j (.int (f x y)))))
  | _, _ => False) (fun x h' => E.rx x env h')) (fun x h' => E.rx x env h')) (fun x h' => E.rx x env h')) D σ H) : tAugS (tE X.K W wo) (tE X.K W wi) (tE X.K W we) (fun o i H Q => ∃ p xs k v, o = .ref p ∧ i = .int k ∧ SqL X.K H p xs ∧ atI xs k = some v ∧ Q v H) (ipI f) rSetL D σ H := by
  obtain ⟨E, env, h, rs, rw_, q, ks⟩ := q
  refine ⟨env, h, _, _, rs, rw_, q, fun od h1 ov H1 p1 r1 ro q1 => ⟨env, h1, _, _, rs.mono p1, r1, q1, fun idd h2 iv H2 p2 r2 ri q2 => ?_, (ks.mono p1).kx (rs.mono p1)⟩, ks.kx rs⟩
  obtain ⟨a, xs, rfl, e1, q3⟩ := q2.get
  cases ro
  unfold gIx at q3
  cases idd <;> try exact q3.elim
  rename_i k
  cases ri
  dsimp only at q3
  rw [e1] at q3
  obtain ⟨z, ez, q3⟩ := QAt.get q3
  obtain ⟨vs, hv, rr⟩ := r2 _ _ e1
  obtain ⟨zv, ezv, rz⟩ := rr.at ez
  have p12 := p1.trans p2
  refine ⟨a, vs, k, zv, rfl, rfl, SqL.of hv, ezv, env, h2, _, _, rs.mono p12, r2, q3, fun d h4 v H4 p4 r4 rd q4 => ?_, (ks.mono p12).kx (rs.mono p12)⟩
  cases z <;> try exact q4.elim
  cases d <;> try exact q4.elim
  rename_i x y
  cases rd
  have ezz := (rz.mono p4).int_inv
  subst ezz
  obtain ⟨a', ys, ea, e5, q5⟩ := q4.get
  cases ea
  obtain ⟨z2, j, ej, hj, q5⟩ := q5.get
  cases ej
  obtain ⟨ws, hw, rr2⟩ := r4 _ _ e5
  have w : Wr (H4 a) := by rw [hw]; exact True.intro
  have pw : Pe H4 (upd H4 a (.lst (ws.set j (.int (f x y))))) := Pe.wr w
  have p := (p12.trans p4).trans pw
  exact ⟨x, y, rfl, rfl, a, ws, k, j, rfl, rfl, hw, by rw [← rr2.length]; exact hj, ks.nx env _ _ _ p (rs.mono p) (r4.set w (show RO X.K _ a (.lst (ys.set j (.int (f x y)))) from ⟨_, upd_same, (rr2.set (.int _) j).mono pw⟩)) q5⟩
def wAugX (f : Int → Int → Int) (wo wi we : WE) : WS := fun E env h => wo env h (fun o h1 => wi env h1 (fun ix h2 => lstQ h2 o fun _ _ => gIx o ix h2 fun z h3 => we env h3 (fun d h4 => match z, d with
  | .int x, .int y => lstQ h4 o fun a xs => ixQ xs.length ix fun j => E.nx env (dup h4 a (.lst (xs.set j (.int (f x y)))))
  | _, _ => False) (fun x h' => E.rx x env h')) (fun x h' => E.rx x env h')) (fun x h' => E.rx x env h')
theorem ds_augAdd (ho : DE X o wo) (hi : DE X i wi) (he : DE X e we)
    (ha : ∀ ov iv new, augStore i ov iv new = (do holding [new, ov, iv] (setItem ov iv new); release [new, ov, iv] []; pure .next) := by intros; rfl) : DS X (.AugAssign (.Subscript o i tpos) .Add e pos) (wAugX (fun a b => a + b) wo wi we) :=
  ⟨fun W ck => (ps_augS (ho.ok W ck) (hi.ok W ck) get_list (he.ok W ck) ip_add set_list ha).imp augS_ok⟩
theorem ds_augSub (ho : DE X o wo) (hi : DE X i wi) (he : DE X e we)
    (ha : ∀ ov iv new, augStore i ov iv new = (do holding [new, ov, iv] (setItem ov iv new); release [new, ov, iv] []; pure .next) := by intros; rfl) : DS X (.AugAssign (.Subscript o i tpos) .Sub e pos) (wAugX (fun a b => a - b) wo wi we) :=
  ⟨fun W ck => (ps_augS (ho.ok W ck) (hi.ok W ck) get_list (he.ok W ck) ip_sub set_list ha).imp augS_ok⟩
end
/-! ### enumerate(xs), a list -/
def enumD : Nat → List D → List D
  | _, [] => []
  | n, x :: xs => .otup [.int (n : Nat), x] :: enumD (n + 1) xs
theorem enumD_len : ∀ (n : Nat) (xs : List D), (enumD n xs).length = xs.length
  | _, [] => rfl
  | n, x :: xs => by rw [enumD, List.length_cons, List.length_cons, enumD_len]
theorem enumD_get : ∀ {n i : Nat} {xs : List D} {y : D}, (enumD n xs)[i]? = some y → ∃ x, xs[i]? = some x ∧ y = .otup [.int ((n + i : Nat) : Int), x]
  | _, _, [], _, e => by simp [enumD] at e
  | n, 0, x :: xs, y, e => by
    simp [enumD] at e; subst e; exact ⟨x, rfl, rfl⟩
  | n, i + 1, x :: xs, y, e => by
    obtain ⟨x', h1, h2⟩ := enumD_get (n := n + 1) (i := i) (xs := xs) (y := y) (by simpa [enumD] using e)
    exact ⟨x', by simpa using h1, by rw [h2, show n + 1 + i = n + (i + 1) by omega]⟩
section
variable {X : Cx} {e : Expr} {we : WE} {p pos tpos : Pos} {elts : List Expr} {kk : Nat} {ws : WA}
def wEnum (ws : WA) : WI := fun env h Q Qx => ws env h (fun ds h1 => One (fun d => srcQ h1 d fun s => (∀ xs, d ≠ .tup xs) ∧ Q ⟨enumD 0 s.xs, s.gd⟩ h1) ds) Qx
theorem it_enum {K : PySem.W.Frag} {H1 : Hp} {a : Addr} {xs : List D} {gd : DH → Prop} (at_ : ∀ H h, Pe H1 H → RW K h H → gd h → ∃ vs, SqL K H a vs ∧ RDs K H xs vs) : ItOk K H1 ⟨enumD 0 xs, gd⟩ (Ite K a) := fun i H h p rw_ g => by
  obtain ⟨vs, s, r⟩ := at_ H h p rw_ g
  refine ⟨fun x hx => ?_, fun hl => ⟨vs, s, by have hl := Nat.le_of_eq hl.symm; rw [← r.length]; simpa [enumD_len] using hl⟩⟩
  obtain ⟨y, hy, rfl⟩ := enumD_get hx
  obtain ⟨v, hv, rd⟩ := r.get hy
  refine ⟨⟨vs, v, s, hv⟩, fun v' H' z => ?_⟩
  obtain ⟨T, x, rfl, hT, rfl, z⟩ := z
  have z2 := z vs s
  rw [hv] at z2
  cases z2
  refine ⟨Pe.new hT, rw_.beside hT, .otup upd_same ?_⟩
  rw [Nat.zero_add]
  exact .cons (.int _) (.cons (rd.mono (Pe.new hT)) .nil)
theorem di_enum (hg : Gl X "enumerate") (hm : X.mg "enumerate" = none) (ha : DA X [e] ws) (hs : starEach [e] X.env = [(false, eval e X.env)] := by rfl) : DI X (.Tuple elts kk tpos) (.Call (.Name "enumerate" p) [e] [] pos) (wEnum ws) :=
  ⟨fun W ck => (pi_enum hg hm (ha.ok W ck) hs).imp fun σ H R ⟨env, h, Qn, Qx, rs, rw_, q, kr, kx⟩ =>
    ⟨env, h, _, Qx, rs, rw_, q, fun ds h1 vs H1 p1 r1 rds q1 => by
      obtain ⟨d, v, rfl, rfl, rd, q1⟩ := one_inv rds q1
      cases d with
      | tup xs => exact absurd rfl (q1.1 xs)
      | sl xs =>
        obtain ⟨a, vs, rfl, t, r⟩ := rd.sl_inv
        exact ⟨a, vs, rfl, t.seq, kr _ h1 _ H1 p1 r1 (it_enum fun H h p rw_ _ => ⟨vs, (p.stL t).seq, r.mono p⟩) q1.2⟩
      | ref a =>
        have ev : v = .ref a := rd.ref_inv
        subst ev
        unfold srcQ at q1
        dsimp only at q1
        split at q1
        · rename_i xs e1
          obtain ⟨vs, hv, r⟩ := r1 _ _ e1
          exact ⟨a, vs, rfl, SqL.of hv, kr _ h1 _ H1 p1 r1 (it_enum fun H h p rw_ g => by
            obtain ⟨vs', hv', r'⟩ := rw_ _ _ g
            exact ⟨vs', SqL.of hv', r'⟩) q1.2⟩
        · exact q1.elim
      | _ => exact q1.elim, kx⟩⟩
end
/-! ### a list times an int -/
def gTimesL : G2 := fun x y h Q => match x, y with
  | .ref a, .int k => match h a with
    | some (.lst xs) => (-(2 ^ 63) ≤ k ∧ k < 2 ^ 63 ∧ xs.length * k.toNat ≤ sizeLine) ∧ NewL h (List.replicate k.toNat xs).flatten Q
    | _ => False
  | _, _ => False
theorem o_timesL {X : Cx} : Op2 X (binaryOp .Mult) gTimesL := by
  refine ⟨_, op_rep, ?_⟩
  intro x y h Qn H vx vy Q rx ry rw_ q kq
  unfold gTimesL at q
  split at q
  · split at q
    · rename_i a k _ xs e
      cases rx; cases ry
      obtain ⟨vs, hv, r⟩ := rw_ _ _ e
      exact ⟨a, k, vs, rfl, rfl, hv, q.1.1, q.1.2.1, by rw [← r.length]; exact q.1.2.2, fun p hp => newL_ok (.refl H) rw_ (r.rep _) q.2 kq hp⟩
    · exact q.elim
  · exact q.elim
/-! ### readings -/
section
variable {env : Ev} {h : DH} {Q : QD} {Qx : QX} {i : Nat} {a : Option D} {d : D} {E : En} {we wo wi : WE} {ws : WA}
theorem zEBits : wBits wo env h Q Qx = wo env h (fun d h1 => match d with
  | .int i => Q (.int (Builtin.Int.intBits i : Nat)) h1
  | _ => False) Qx := rfl
theorem zEAugL : wAugL i we E env h = wVar i env h (fun d _ => match d with
  | .ref a => we env h (fun d h1 => lstQ h1 d fun _ ys => lstQ h1 (.ref a) fun _ xs => xs.length + ys.length ≤ sizeLine ∧ E.nx (env.set i (some (.ref a))) (dup h1 a (.lst (xs ++ ys)))) (fun x h1 => E.rx x env h1)
  | _ => False) (fun _ _ => False) := by
  unfold wAugL wVar
  cases env[i]? with
  | none => rfl
  | some o =>
    cases o with
    | none => rfl
    | some d => cases d <;> rfl
theorem zEAugX {f : Int → Int → Int} : wAugX f wo wi we E env h = wo env h (fun o h1 => wi env h1 (fun ix h2 => lstQ h2 o fun _ _ => gIx o ix h2 fun z h3 => we env h3 (fun d h4 => match z, d with
  | .int x, .int y => lstQ h4 o fun a xs => ixQ xs.length ix fun j => E.nx env (dup h4 a (.lst (xs.set j (.int (f x y)))))
  | _, _ => False) (fun x h' => E.rx x env h')) (fun x h' => E.rx x env h')) (fun x h' => E.rx x env h') := rfl
theorem zEEnum {QI : Src → DH → Prop} : wEnum ws env h QI Qx = ws env h (fun ds h1 => One (fun d => srcQ h1 d fun s => (∀ xs, d ≠ .tup xs) ∧ QI ⟨enumD 0 s.xs, s.gd⟩ h1) ds) Qx := rfl
theorem zGTimesL {p : Addr} {k : Int} : gTimesL (.ref p) (.int k) h Q = (match h p with
    | some (.lst xs) => (-(2 ^ 63) ≤ k ∧ k < 2 ^ 63 ∧ xs.length * k.toNat ≤ sizeLine) ∧ NewL h (List.replicate k.toNat xs).flatten Q
    | _ => False) := rfl
end
end DL
namespace DL
open PySem PySem.Spec PyProof.Rows L2
/-! ### walking by itself -/
/-- N goes on with s -/
structure Cont (N : Ev → DH → Prop) (s : WS) (E : En) : Prop where
  go : ∀ e h, s E e h → N e h
theorem seq_c {s1 s2 : WS} {E : En} {env : Ev} {h : DH} (H : ∀ N : Ev → DH → Prop, Cont N s2 E → s1 ⟨N, E.rt, E.bk, E.ct, E.rx⟩ env h) : wSeq s1 s2 E env h := H _ ⟨fun _ _ q => q⟩
theorem cont_go {N : Ev → DH → Prop} {s : WS} {E : En} {env : Ev} {h : DH} (c : Cont N s E) (q : s E env h) : N env h := c.go _ _ q
/-- how a def ends -/
structure Ends (E : En) (Q : QD) (Qx : QX) : Prop where
  rt : ∀ d h' h2, Sub h2 h' → Q d h2 → E.rt d h'
  rx : ∀ x e h' h2, Sub h2 h' → Qx x h2 → E.rx x e h'
  nx : ∀ e h' h2, Sub h2 h' → Q .non h2 → E.nx e h'
theorem def_c {np nn : Nat} {w : WS} {ds : List D} {h : DH} {Q : QD} {Qx : QX} (hl : ds.length = np) (H : ∀ E : En, Ends E Q Qx → w E (ds.map some ++ List.replicate (nn - np) none) h) : wDef np nn w ds h Q Qx := def_i hl fun E a b c => H E ⟨a, b, c⟩
theorem rt_go {E : En} {Q : QD} {Qx : QX} {d : D} {h : DH} (c : Ends E Q Qx) (q : Q d h) : E.rt d h := c.rt _ _ _ (.refl _) q
theorem rt_sub {E : En} {Q : QD} {Qx : QX} {d : D} {h h' : DH} (c : Ends E Q Qx) (s : Sub h h') (q : Q d h) : E.rt d h' := c.rt _ _ _ s q
theorem rx_sub {E : En} {Q : QD} {Qx : QX} {x : XC} {e : Ev} {h h' : DH} (c : Ends E Q Qx) (s : Sub h h') (q : Qx x h) : E.rx x e h' := c.rx _ _ _ _ s q
theorem rx_go {E : En} {Q : QD} {Qx : QX} {x : XC} {e : Ev} {h : DH} (c : Ends E Q Qx) (q : Qx x h) : E.rx x e h := c.rx _ _ _ _ (.refl _) q
theorem nx_go {E : En} {Q : QD} {Qx : QX} {e : Ev} {h : DH} (c : Ends E Q Qx) (q : Q .non h) : E.nx e h := c.nx _ _ _ (.refl _) q
section
variable {h : DH} {Q : QD} {p : Addr} {xs ys : List D}
theorem gIx_i {i : Int} (e : h p = some (.lst xs)) (q : QAt h Q (atI xs i)) : gIx (.ref p) (.int i) h Q := by rw [zGIx_r, e]; exact q
theorem qat_i {o : Option D} {d : D} (e : o = some d) (q : Q d h) : QAt h Q o := by rw [e]; exact q
theorem ixQ_i {n j : Nat} {z : Int} {k : Nat → Prop} (e : ixN n z = some j) (q : k j) : ixQ n (.int z) k := by rw [zEIxQ, e]; exact q
theorem gSl_i {lo hi : Option Int} (e : h p = some (.lst xs)) (q : NewL h (cutD xs lo hi) Q) : gSl (.ref p) lo hi h Q := by rw [zGSl_r, e]; exact q
theorem gSl_s {lo hi : Option Int} (q : NewL h (cutD xs lo hi) Q) : gSl (.sl xs) lo hi h Q := q
theorem srcQ_s {k : Src → Prop} (q : k ⟨xs, fun _ => True⟩) : srcQ h (.sl xs) k := q
theorem gRev_i (e : h p = some (.lst xs)) (q : NewL h xs.reverse Q) : gRev (.ref p) h Q := by rw [zGRev_r, e]; exact q
theorem lenQ_i {k : Nat → Prop} (e : h p = some (.lst xs)) (q : k xs.length) : LenQ h (.ref p) k := by rw [zLenQ_r, zItems_r, e]; exact q
theorem itQ_i {k : List D → Prop} (e : h p = some (.lst xs)) (q : k xs) : ItQ h (.ref p) k := by rw [zItQ_i, zItems_r, e]; exact q
theorem itQ_t {k : List D → Prop} (q : k xs) : ItQ h (.tup xs) k := q
theorem itQ_s {k : List D → Prop} (q : k xs) : ItQ h (.sl xs) k := q
theorem lstQ_i {k : Addr → List D → Prop} (e : h p = some (.lst xs)) (q : k p xs) : lstQ h (.ref p) k := by rw [zLstQ_r, e]; exact q
theorem srcQ_i {k : Src → Prop} (e : h p = some (.lst xs)) (q : k ⟨xs, fun h' => h' p = some (.lst xs)⟩) : srcQ h (.ref p) k := by rw [zSrcQ_r, e]; exact q
theorem fldQ_i {m : Str} {k : D → Prop} {C : Addr} {fs : List (Str × D)} {d : D} (e : h p = some (.ins C fs)) (l : fs.lookup m = some d) (q : k d) : fldQ h (.ref p) m k := by rw [zFldQ_r, e]; dsimp only; rw [l]; exact q
theorem fld_i {m : Str} {k : D → Prop} {Cs : List Addr} {C : Addr} {fs : List (Str × D)} {d : D} (e : h p = some (.ins C fs)) (hC : C ∈ Cs) (l : fs.lookup m = some d) (q : k d) : fldQ h (.ref p) m k ∧ ∀ a C fs, D.ref p = .ref a → h a = some (.ins C fs) → C ∈ Cs :=
  ⟨fldQ_i e l q, fun a C' fs' e1 e2 => by cases e1; rw [e] at e2; cases e2; exact hC⟩
theorem insQ_i {C : Addr} {m : Str} {fs : List (Str × D)} (e : h p = some (.ins C fs)) (l : fs.lookup m = none) : insQ h (.ref p) C m := ⟨p, fs, rfl, e, l⟩
theorem tyQ_i {k : String → Prop} (e : h p = some (.lst xs)) (q : k "list") : TyQ h (.ref p) k := by rw [zTyQ_r, e]; exact q
theorem gTimesL_i {k : Int} (e : h p = some (.lst xs)) (c : -(2 ^ 63) ≤ k ∧ k < 2 ^ 63 ∧ xs.length * k.toNat ≤ sizeLine) (q : NewL h (List.replicate k.toNat xs).flatten Q) : gTimesL (.ref p) (.int k) h Q := by rw [zGTimesL, e]; exact ⟨c, q⟩
theorem gAddL_i {p2 : Addr} (e : h p = some (.lst xs)) (e2 : h p2 = some (.lst ys)) (c : xs.length + ys.length ≤ sizeLine) (q : NewL h (xs ++ ys) Q) : gAdd (.ref p) (.ref p2) h Q := by
  show (match h p, h p2 with
    | some (.lst xs), some (.lst ys) => xs.length + ys.length ≤ sizeLine ∧ NewL h (xs ++ ys) Q
    | _, _ => False)
  rw [e, e2]; exact ⟨c, q⟩
theorem fldS_i {Cs : List Addr} {C : Addr} {fs : List (Str × D)} {m : Str} {d : D} {N : DH → Prop} (e : h p = some (.ins C fs)) (hC : C ∈ Cs) (l : fs.length < 1000) (q : N (dup h p (.ins C (putD m d fs)))) :
    ∃ a C fs, D.ref p = .ref a ∧ h a = some (.ins C fs) ∧ C ∈ Cs ∧ fs.length < 1000 ∧ N (dup h a (.ins C (putD m d fs))) := ⟨p, C, fs, rfl, e, hC, l, q⟩
theorem truL {QT : Bool → DH → Prop} (e : h p = some (.lst xs)) (q : QT (!xs.isEmpty) h) : Tru (.ref p) h QT := by
  unfold Tru; simp only [e]; exact q
theorem allL_i {f : List Bool → Bool} {bs : List Bool} (e : h p = some (.lst (bs.map D.bl))) (q : Q (.bl (f bs)) h) : gAllL f [.ref p] h Q := by
  rw [zEAllL, e]; dsimp only; rw [blsOf_map]; exact q
end
theorem cpow_s {i j : Int} (h0 : 0 ≤ j) (h1 : j ≤ 1000000) (h2 : -1000000 < i) (h3 : i < 1000000) : CPow i j := ⟨h0, h1, by
  have : (2 : Nat) ^ 64 = 18446744073709551616 := by decide
  omega⟩
theorem catch_i {C : Addr} {A B : Prop} (q : A) : ∃ b, ((XC.own C).cls, b) ∈ [(C, true)] ∧ if b = true then A else B := ⟨true, List.mem_singleton_self _, by rw [if_pos rfl]; exact q⟩
theorem catch_a {C : Addr} {F : Addr → Prop} (q : ∀ a, F a) : ∀ a : Addr, XC.own C = .own C ∧ F a := fun a => ⟨rfl, q a⟩
/-! ### equal data -/
section
variable {h : DH} {Q : QD}
/-- two values that Python compares as data -/
theorem gEq_i {neg b : Bool} {x y : D} {d e : PyData} (e1 : py h x = some d) (e2 : py h y = some e) (s1 : SeqAt.shaped d = true) (s2 : SeqAt.shaped e = true) (eb : PyData.eqv d e = b) (q : Q (.bl (if neg = true then !b else b)) h) : gEq neg x y h Q := by
  unfold gEq; rw [e1, e2]; subst eb; exact ⟨s1, s2, q⟩
end
end DL
namespace DL
open PySem PySem.Spec PyProof.Rows L2
/-! ### plain data: None, ints, texts, tuples of them, at most n deep -/
def plN : Nat → D → Bool
  | _, .non => true
  | _, .int _ => true
  | _, .str s => PyData.strOk s
  | n + 1, .tup xs => xs.all (plN n)
  | _, _ => false
def pdN : Nat → D → PyData
  | _, .int i => .int i
  | _, .str s => .str s
  | n + 1, .tup xs => .tuple (xs.map (pdN n))
  | _, _ => .none
theorem pyDs_pl {f : Addr → Option PyData} {n : Nat} (ih : ∀ d, plN n d = true → pyD f d = some (pdN n d)) : ∀ xs : List D, xs.all (plN n) = true → pyDs f xs = some (xs.map (pdN n))
  | [], _ => by simp [pyDs]
  | x :: xs, h => by
    rw [List.all_cons, Bool.and_eq_true] at h
    rw [pyDs, ih x h.1, pyDs_pl ih xs h.2]; rfl
theorem pyD_pl {f : Addr → Option PyData} : ∀ (n : Nat) (d : D), plN n d = true → pyD f d = some (pdN n d)
  | 0, d, h => by cases d <;> first | (simp [plN] at h; done) | simp [pyD, pdN]
  | n + 1, d, h => by
    cases d with
    | tup xs =>
      have hx : xs.all (plN n) = true := by simpa [plN] using h
      rw [pyD, pyDs_pl (pyD_pl n) xs hx]; rfl
    | _ => first | (simp [plN] at h; done) | simp [pyD, pdN]
theorem canLayAll_pl {n : Nat} (ih : ∀ d, plN n d = true → PyData.canLay0 (pdN n d) = true) : ∀ xs : List D, xs.all (plN n) = true → PyData.canLayAll0 (xs.map (pdN n)) = true
  | [], _ => rfl
  | x :: xs, h => by
    rw [List.all_cons, Bool.and_eq_true] at h
    rw [List.map_cons, PyData.canLayAll0, ih x h.1, canLayAll_pl ih xs h.2]; rfl
theorem canLay_pl : ∀ (n : Nat) (d : D), plN n d = true → PyData.canLay0 (pdN n d) = true
  | 0, d, h => by cases d <;> first | rfl | exact h
  | n + 1, d, h => by
    cases d with
    | tup xs => exact canLayAll_pl (canLay_pl n) xs (by simpa [plN] using h)
    | _ => first | rfl | exact h
theorem depthAll_pl {n : Nat} (ih : ∀ d, PyData.depth (pdN n d) ≤ n) : ∀ xs : List D, PyData.depthAll (xs.map (pdN n)) ≤ n
  | [] => Nat.zero_le _
  | x :: xs => by
    rw [List.map_cons, PyData.depthAll]
    have := ih x
    have := depthAll_pl ih xs
    omega
theorem depth_pl : ∀ (n : Nat) (d : D), PyData.depth (pdN n d) ≤ n
  | 0, d => by cases d <;> exact Nat.zero_le _
  | n + 1, d => by
    cases d with
    | tup xs =>
      have := depthAll_pl (depth_pl n) xs
      show PyData.depthAll _ + 1 ≤ n + 1
      omega
    | _ => exact Nat.zero_le _
theorem shaped_pl {n : Nat} (hn : n ≤ 20) (d : D) (h : plN n d = true) : SeqAt.shaped (pdN n d) = true := by
  unfold SeqAt.shaped
  rw [canLay_pl n d h, Bool.true_and]
  have := depth_pl n d
  exact decide_eq_true (by omega)
theorem shaped_pls {n : Nat} (hn : n ≤ 20) (xs : List D) (h : xs.all (plN n) = true) : SeqAt.shaped (.list (xs.map (pdN n))) = true := by
  unfold SeqAt.shaped
  rw [show PyData.canLay0 (.list (xs.map (pdN n))) = PyData.canLayAll0 (xs.map (pdN n)) from rfl, canLayAll_pl (canLay_pl n) xs h, Bool.true_and]
  have := depthAll_pl (depth_pl n) xs
  exact decide_eq_true (by show PyData.depthAll _ + 1 ≤ 64; omega)
theorem eqvAll_pl {n : Nat} (ih : ∀ x y, plN n x = true → plN n y = true → (PyData.eqv (pdN n x) (pdN n y) = true ↔ x = y)) :
    ∀ xs ys : List D, xs.all (plN n) = true → ys.all (plN n) = true → (PyData.eqvAll (xs.map (pdN n)) (ys.map (pdN n)) = true ↔ xs = ys)
  | [], [], _, _ => by simp [PyData.eqvAll]
  | [], _ :: _, _, _ => by simp [PyData.eqvAll]
  | _ :: _, [], _, _ => by simp [PyData.eqvAll]
  | x :: xs, y :: ys, hx, hy => by
    rw [List.all_cons, Bool.and_eq_true] at hx hy
    rw [List.map_cons, List.map_cons, PyData.eqvAll, Bool.and_eq_true, ih x y hx.1 hy.1, eqvAll_pl ih xs ys hx.2 hy.2, List.cons.injEq]
theorem eqv_pl : ∀ (n : Nat) (x y : D), plN n x = true → plN n y = true → (PyData.eqv (pdN n x) (pdN n y) = true ↔ x = y)
  | 0, x, y, hx, hy => by
    cases x <;> first
      | (simp [plN] at hx; done)
      | (cases y <;> first
        | (simp [plN] at hy; done)
        | simp [pdN, PyData.eqv])
  | n + 1, x, y, hx, hy => by
    cases x with
    | tup xs =>
      cases y with
      | tup ys =>
        have h1 : xs.all (plN n) = true := by simpa [plN] using hx
        have h2 : ys.all (plN n) = true := by simpa [plN] using hy
        rw [pdN, pdN, PyData.eqv, eqvAll_pl (eqv_pl n) xs ys h1 h2, D.tup.injEq]
      | _ => first | (simp [plN] at hy; done) | simp [pdN, PyData.eqv]
    | _ => first
      | (simp [plN] at hx; done)
      | (cases y <;> first
        | (simp [plN] at hy; done)
        | simp [pdN, PyData.eqv])
theorem pl_ints {n : Nat} (l : List Int) : (l.map D.int).all (plN n) = true := by
  rw [List.all_map, List.all_eq_true]; intro x _; show plN n (.int x) = true; cases n <;> rfl
theorem plT {n : Nat} {xs : List D} (h : xs.all (plN n) = true) : plN (n + 1) (.tup xs) = true := by simpa [plN] using h
theorem plI {n : Nat} {i : Int} : plN n (.int i) = true := by cases n <;> rfl
theorem plNon {n : Nat} : plN n .non = true := by cases n <;> rfl
theorem plS {n : Nat} {s : Str} (h : PyData.strOk s = true) : plN n (.str s) = true := by cases n <;> exact h
section
variable {h : DH} {Q : QD} {neg : Bool}
theorem geq_yes {n : Nat} {x y : D} (hn : n ≤ 20) (hx : plN n x = true) (e : x = y) (q : Q (.bl (!neg)) h) : gEq neg x y h Q := by
  subst e
  refine gEq_i (b := true) (pyD_pl n x hx) (pyD_pl n x hx) (shaped_pl hn x hx) (shaped_pl hn x hx) ((eqv_pl n x x hx hx).mpr rfl) ?_
  cases neg <;> exact q
theorem geq_no {n : Nat} {x y : D} (hn : n ≤ 20) (hx : plN n x = true) (hy : plN n y = true) (e : x ≠ y) (q : Q (.bl neg) h) : gEq neg x y h Q := by
  refine gEq_i (b := false) (pyD_pl n x hx) (pyD_pl n y hy) (shaped_pl hn x hx) (shaped_pl hn y hy) ?_ ?_
  · rw [Bool.eq_false_iff]; exact fun z => e ((eqv_pl n x y hx hy).mp z)
  · cases neg <;> exact q
theorem py_ls {n : Nat} {a : Addr} {xs : List D} (e : h a = some (.lst xs)) (hx : xs.all (plN n) = true) : py h (.ref a) = some (.list (xs.map (pdN n))) := by
  show pyR 3 h a = _
  rw [pyR, e]
  show (pyDs (pyR 2 h) xs).map PyData.list = _
  rw [pyDs_pl (pyD_pl n) xs hx]; rfl
theorem geqL_yes {n : Nat} {a b : Addr} {xs ys : List D} (hn : n ≤ 20) (ea : h a = some (.lst xs)) (eb : h b = some (.lst ys)) (hx : xs.all (plN n) = true) (e : xs = ys) (q : Q (.bl (!neg)) h) : gEq neg (.ref a) (.ref b) h Q := by
  subst e
  refine gEq_i (b := true) (py_ls ea hx) (py_ls eb hx) (shaped_pls hn xs hx) (shaped_pls hn xs hx) ?_ ?_
  · show PyData.eqvAll _ _ = true
    exact (eqvAll_pl (eqv_pl n) xs xs hx hx).mpr rfl
  · cases neg <;> exact q
theorem geqL_no {n : Nat} {a b : Addr} {xs ys : List D} (hn : n ≤ 20) (ea : h a = some (.lst xs)) (eb : h b = some (.lst ys)) (hx : xs.all (plN n) = true) (hy : ys.all (plN n) = true) (e : xs ≠ ys) (q : Q (.bl neg) h) : gEq neg (.ref a) (.ref b) h Q := by
  refine gEq_i (b := false) (py_ls ea hx) (py_ls eb hy) (shaped_pls hn xs hx) (shaped_pls hn ys hy) ?_ ?_
  · rw [Bool.eq_false_iff]
    show ¬ (PyData.eqvAll _ _ = true)
    exact fun z => e ((eqvAll_pl (eqv_pl n) xs ys hx hy).mp z)
  · cases neg <;> exact q
end
section
variable {h : DH} {Q : QD} {neg : Bool} {a b : Str}
theorem gEqS_t (ha : PyData.strOk a = true) (q : Q (.bl (if neg = true then false else true)) h) : gEq neg (.str a) (.str a) h Q :=
  geq_yes (n := 0) (by decide) (plS ha) rfl (by cases neg <;> exact q)
theorem gEqS_f (ha : PyData.strOk a = true) (hb : PyData.strOk b = true) (e : decide (a = b) = false) (q : Q (.bl (if neg = true then true else false)) h) : gEq neg (.str a) (.str b) h Q :=
  geq_no (n := 0) (by decide) (plS ha) (plS hb) (fun z => by injection z with z; exact of_decide_eq_false e z) (by cases neg <;> exact q)
end
end DL
namespace DL
open PySem PySem.Spec PyProof.Rows L2
/-! ### an int in a tuple or list of ints -/
def gInI (neg : Bool) : G2 := fun x y h Q => match x, items h y with
  | .int i, some ys => match intsOf ys with
    | some ns => Q (.bl (if neg = true then !ns.any (fun z => decide (z = i)) else ns.any fun z => decide (z = i))) h
    | none => False
  | _, _ => False
theorem flat_ints (ns : List Int) : (ns.map V.int).all flatV = true := by
  rw [List.all_map, List.all_eq_true]; intro _ _; rfl
theorem inV_ints (i : Int) : ∀ ns : List Int, inV (.int i) (ns.map V.int) = ns.any fun z => decide (z = i)
  | [] => rfl
  | n :: ns => by
    have ih := inV_ints i ns
    unfold inV at ih ⊢
    rw [List.map_cons, List.any_cons, List.any_cons, ih]
    congr 1
theorem simInI {K : PySem.W.Frag} {neg : Bool} : Sim2 K (gInI neg) (rIn K neg) := by
  intro x y h Qn H vx vy Q rx ry rw_ q kq
  unfold gInI at q
  split at q
  · rename_i i ys e
    split at q
    · rename_i ns e2
      obtain ⟨a, vs, rfl, s, r⟩ := items_ok ry rw_ e
      have e3 := intsOf_eq e2
      subst e3
      have e4 := r.ints_inv
      subst e4
      cases rx
      refine ⟨a, _, rfl, s, rfl, flat_ints ns, ?_⟩
      rw [inV_ints]
      exact kq.here rw_ (.bl _) q
    · exact q.elim
  · exact q.elim
theorem o_inI {X : Cx} : Op2 X (compareOp .In) (gInI false) := ⟨_, op_in_seq, simInI⟩
theorem o_notinI {X : Cx} : Op2 X (compareOp .NotIn) (gInI true) := ⟨_, op_notIn_seq, simInI⟩
theorem gInI_t {neg : Bool} {i : Int} {ns : List Int} {h : DH} {Q : QD} (q : Q (.bl (if neg = true then !ns.any (fun z => decide (z = i)) else ns.any fun z => decide (z = i))) h) : gInI neg (.int i) (.tup (ns.map D.int)) h Q := by
  unfold gInI
  dsimp only [items]
  rw [intsOf_map]; exact q
theorem gInI2 {neg : Bool} {i a b : Int} {h : DH} {Q : QD} (q : Q (.bl (if neg = true then !(decide (a = i) || decide (b = i)) else (decide (a = i) || decide (b = i)))) h) : gInI neg (.int i) (.tup [.int a, .int b]) h Q := by
  refine gInI_t (ns := [a, b]) ?_
  simp only [List.any_cons, List.any_nil, Bool.or_false]
  exact q
end DL
namespace DL
open PySem PySem.Spec PyProof.Rows L2
/-! ### heaps by name: what is made stays told -/
theorem newL_go {h : DH} {L : List D} {Q : QD} (k : ∀ p h', h p = none → Sub h h' → h' p = some (.lst L) → Q (.ref p) h') : NewL h L Q := fun p f => k p _ f (Sub.new f) dup_same
theorem sub_at {h h' : DH} {a : Addr} {o : DO} (s : Sub h h') (e : h a = some o) : h' a = some o := s _ _ e
theorem sub_dup0 {h hh : DH} {p : Addr} {o : DO} (s : Sub h hh) (f : h p = none) : Sub h (dup hh p o) := fun a u e => by
  rw [dup_ne (ne_fresh e f)]; exact s a u e
/-- C(ds) -/
def Make (C : Addr) (wf : WF) (ds : List D) (h : DH) (Q : QD) (Qx : QX) : Prop := ∀ p, h p = none → wf (.ref p :: ds) (dup h p (.ins C [])) (fun v h2 => v = .non ∧ Q (.ref p) h2) Qx
theorem zEMake2 {C : Addr} {wf : WF} {ws : WA} {env : Ev} {h : DH} {Q : QD} {Qx : QX} : wMake C wf ws env h Q Qx = ws env h (fun ds h1 => Make C wf ds h1 Q Qx) Qx := rfl
/-- a comprehension over s -/
def LcG (i : Nat) (wt : WT) (we : WE) (env : Ev) (Q : QD) (s : Src) (h1 : DH) : Prop := ∀ p, h1 p = none → s.gd (dup h1 p (.lst [])) ∧ lcW p s.gd i wt we env (fun h2 => Q (.ref p) h2) s.xs (dup h1 p (.lst []))
theorem zELc2 {wi : WI} {i : Nat} {wt : WT} {we : WE} {env : Ev} {h : DH} {Q : QD} {Qx : QX} : wLc wi i wt we env h Q Qx = wi env h (fun s h1 => LcG i wt we env Q s h1) Qx := rfl
/-- with a condition b -/
theorem lc_if {i : Nat} {wt : WT} {we : WE} {env : Ev} {Q : QD} {s : Src} {h1 : DH} (b : Nat → Bool) (f : Nat → D) (hgd : ∀ h', Sub h1 h' → s.gd h') (hl : s.xs.length < sizeLine)
    (ht : ∀ (j : Nat) (x : D) (h' : DH) (R : Bool → DH → Prop), s.xs[j]? = some x → Sub h1 h' → (∀ h'', Sub h' h'' → R (b j) h'') → wt (env.set i (some x)) h' R (fun _ _ => False))
    (hs : ∀ (j : Nat) (x : D) (h' : DH) (R : QD), s.xs[j]? = some x → b j = true → Sub h1 h' → (∀ h'', Sub h' h'' → R (f j) h'') → we (env.set i (some x)) h' R (fun _ _ => False))
    (q : ∀ p h', h1 p = none → Sub h1 h' → h' p = some (.lst (((List.range s.xs.length).filter b).map f)) → Q (.ref p) h') : LcG i wt we env Q s h1 := by
  intro p fp
  refine ⟨hgd _ (Sub.new fp), lc_i (fun j hh => Sub h1 hh ∧ hh p = some (.lst (((List.range j).filter b).map f)) ∧ j ≤ s.xs.length) ?_ ?_ _ ⟨Sub.new fp, dup_same, Nat.zero_le _⟩⟩
  · rintro hh ⟨sb, e, _⟩
    exact q p hh fp sb e
  · rintro j x hh N hx ⟨sb, e, hj⟩ hN
    have hj' : j < s.xs.length := (List.getElem?_eq_some_iff.mp hx).1
    refine ht j x hh _ hx sb fun h2 sb2 => ?_
    have en : ((List.range (j + 1)).filter b).map f = ((List.range j).filter b).map f ++ (if b j = true then [f j] else []) := by
      rw [List.range_succ, List.filter_append, List.map_append]
      congr 1
      by_cases z : b j = true
      · simp [List.filter, z]
      · simp [List.filter, z]
    split
    · rename_i z
      refine hs j x h2 _ hx z (sb.trans sb2) fun h3 sb3 => ?_
      refine lstQ_i (sb3 _ _ (sb2 _ _ e)) ⟨?_, hgd _ (sub_dup0 ((sb.trans sb2).trans sb3) fp), hN _ ⟨sub_dup0 ((sb.trans sb2).trans sb3) fp, ?_, hj'⟩⟩
      · rw [List.length_map]
        have := List.length_filter_le b (List.range j)
        rw [List.length_range] at this
        omega
      · rw [dup_same, en, if_pos z]
    · rename_i z
      exact ⟨hgd _ (sb.trans sb2), hN _ ⟨sb.trans sb2, by rw [en, if_neg z, List.append_nil]; exact sb2 _ _ e, hj'⟩⟩
theorem lc_go {i : Nat} {we : WE} {env : Ev} {Q : QD} {s : Src} {h1 : DH} (f : Nat → D) (hgd : ∀ h', Sub h1 h' → s.gd h') (hl : s.xs.length < sizeLine)
    (hs : ∀ (j : Nat) (x : D) (h' : DH) (R : QD), s.xs[j]? = some x → Sub h1 h' → (∀ h'', Sub h' h'' → R (f j) h'') → we (env.set i (some x)) h' R (fun _ _ => False))
    (q : ∀ p h', h1 p = none → Sub h1 h' → h' p = some (.lst ((List.range s.xs.length).map f)) → Q (.ref p) h') : LcG i wYes we env Q s h1 := by
  refine lc_if (fun _ => true) f hgd hl (fun j x h' R _ _ k => k h' (Sub.refl _)) (fun j x h' R hx _ => hs j x h' R hx) fun p h' fp sb e => q p h' fp sb ?_
  rw [e, List.filter_eq_self.mpr (fun _ _ => rfl)]
theorem lc_up {i : Nat} {we : WE} {env : Ev} {Q : QD} {gd : DH → Prop} {h1 : DH} {lo : Int} {n : Nat} (f : Nat → D) (hgd : ∀ h', Sub h1 h' → gd h') (hl : n < sizeLine)
    (hs : ∀ (j : Nat) (h' : DH) (R : QD), j < n → Sub h1 h' → (∀ h'', Sub h' h'' → R (f j) h'') → we (env.set i (some (.int (lo + (j : Nat))))) h' R (fun _ _ => False))
    (q : ∀ p h', h1 p = none → Sub h1 h' → h' p = some (.lst ((List.range n).map f)) → Q (.ref p) h') : LcG i wYes we env Q ⟨upto lo n, gd⟩ h1 := by
  refine lc_go f hgd (by rw [upto_len]; exact hl) (fun j x h' R hx sb k => ?_) (by rw [upto_len]; exact q)
  obtain ⟨hj, rfl⟩ := upto_get hx
  exact hs j h' R hj sb k
/-! ### loops: of the slots ks alone the values change -/
def setAll : Ev → List Nat → List (Option D) → Ev
  | e, k :: ks, o :: os => setAll (e.set k o) ks os
  | e, _, _ => e
theorem zST {a : Option D} {l : Ev} {i : Nat} {d : Option D} : List.set (a :: l) (i + 1) d = a :: List.set l i d := rfl
theorem zSU {a : Option D} {l : Ev} {d : Option D} : List.set (a :: l) 0 d = d :: l := rfl
theorem zSA {e : Ev} {k : Nat} {ks : List Nat} {o : Option D} {os : List (Option D)} : setAll e (k :: ks) (o :: os) = setAll (e.set k o) ks os := rfl
theorem zSN {e : Ev} : setAll e [] [] = e := rfl
theorem for_f {gd : DH → Prop} {g : WG} {b : WS} {E : En} {xs : List D} {env0 : Ev} {h0 : DH} (ks : List Nat) (I : Nat → List (Option D) → DH → Prop) (vs0 : List (Option D)) (e0 : env0 = setAll env0 ks vs0) (hgd : ∀ h', Sub h0 h' → gd h') (i0 : I 0 vs0 h0)
    (hs : ∀ (i : Nat) (x : D) vs h (N : Ev → DH → Prop), xs[i]? = some x → Sub h0 h → I i vs h → (∀ vs2 e2 h2, I (i + 1) vs2 h2 → e2 = setAll env0 ks vs2 → Sub h0 h2 → N e2 h2) → g x (setAll env0 ks vs) h fun e1 h1 => b ⟨N, E.rt, E.nx, N, E.rx⟩ e1 h1)
    (hn : ∀ vs h, Sub h0 h → I xs.length vs h → E.nx (setAll env0 ks vs) h) : forW gd g b E xs env0 h0 := by
  refine for_ix (fun i env hh => Sub h0 hh ∧ ∃ vs, env = setAll env0 ks vs ∧ I i vs hh) ?_ ?_ _ _ ⟨Sub.refl _, vs0, e0, i0⟩
  · rintro env h ⟨s, vs, rfl, hi⟩; exact hn vs h s hi
  · rintro i x env h N hx ⟨s, vs, rfl, hi⟩ hN
    exact hs i x vs h N hx s hi fun vs2 e2 h2 i2 e s2 => hN _ _ (hgd _ s2) ⟨s2, vs2, e, i2⟩
theorem for_u {g : WG} {b : WS} {E : En} {lo : Int} {n : Nat} {env0 : Ev} {h0 : DH} (ks : List Nat) (I : Nat → List (Option D) → DH → Prop) (vs0 : List (Option D)) (e0 : env0 = setAll env0 ks vs0) (i0 : I 0 vs0 h0)
    (hs : ∀ (i : Nat) vs h (N : Ev → DH → Prop), i < n → Sub h0 h → I i vs h → (∀ vs2 e2 h2, I (i + 1) vs2 h2 → e2 = setAll env0 ks vs2 → Sub h0 h2 → N e2 h2) → g (.int (lo + (i : Nat))) (setAll env0 ks vs) h fun e1 h1 => b ⟨N, E.rt, E.nx, N, E.rx⟩ e1 h1)
    (hn : ∀ vs h, Sub h0 h → I n vs h → E.nx (setAll env0 ks vs) h) : forW (fun _ => True) g b E (upto lo n) env0 h0 := by
  refine for_f ks I vs0 e0 (fun _ _ => trivial) i0 (fun i x vs h N hx s hi hN => ?_) (by rw [upto_len]; exact hn)
  obtain ⟨hi', rfl⟩ := upto_get hx
  exact hs i vs h N hi' s hi hN
theorem while_f {c : WT} {b : WS} {E : En} {env0 : Ev} {h0 : DH} (ks : List Nat) (I : Nat → List (Option D) → DH → Prop) (vs0 : List (Option D)) (m0 : Nat) (e0 : env0 = setAll env0 ks vs0) (i0 : I m0 vs0 h0)
    (hs : ∀ (m : Nat) vs h (N : Ev → DH → Prop), Sub h0 h → I m vs h → (∀ m' vs2 e2 h2, m' < m → I m' vs2 h2 → e2 = setAll env0 ks vs2 → Sub h0 h2 → N e2 h2) → c (setAll env0 ks vs) h (fun k h1 => if k = true then b ⟨N, E.rt, E.nx, N, E.rx⟩ (setAll env0 ks vs) h1 else E.nx (setAll env0 ks vs) h1) (fun x h1 => E.rx x (setAll env0 ks vs) h1)) : wWhile c b E env0 h0 := by
  refine while_i (fun m env hh => Sub h0 hh ∧ ∃ vs, env = setAll env0 ks vs ∧ I m vs hh) m0 ?_ ⟨Sub.refl _, vs0, e0, i0⟩
  rintro m env h N ⟨s, vs, rfl, hi⟩ hN
  exact hs m vs h N s hi fun m' vs2 e2 h2 hm i2 e s2 => hN m' _ _ hm ⟨s2, vs2, e, i2⟩
/-- a meeting point behind a statement -/
theorem seq_m {s1 s2 : WS} {E : En} {env0 : Ev} {h0 : DH} (ks : List Nat) (M : List (Option D) → DH → Prop) (h1 : ∀ N : Ev → DH → Prop, (∀ vs e h, M vs h → e = setAll env0 ks vs → Sub h0 h → N e h) → s1 ⟨N, E.rt, E.bk, E.ct, E.rx⟩ env0 h0)
    (h2 : ∀ vs h, Sub h0 h → M vs h → s2 E (setAll env0 ks vs) h) : wSeq s1 s2 E env0 h0 := by
  refine seq_i fun N hN => h1 N fun vs e h m ee s => hN _ _ ?_
  subst ee; exact h2 vs h s m
/-! ### draws -/
def dg (ds : List Int) (z : Int) : Int := ds.getD z.toNat 0
theorem qat_dg {ds : List Int} {m : Nat} {z : Int} {h : DH} {Q : QD} (hd : ds.length = m) (h0 : 0 ≤ z) (h1 : z < (m : Nat)) (q : Q (.int (dg ds z)) h) : QAt h Q (atI (ds.map D.int) z) := by
  rw [atI_lt h0, List.getElem?_map, List.getElem?_eq_getElem (by omega)]
  unfold dg at q
  rw [List.getD_eq_getElem?_getD, List.getElem?_eq_getElem (by omega)] at q
  exact q
/-! ### plain data, piece by piece -/
theorem pl_nil {n : Nat} : ([] : List D).all (plN n) = true := rfl
theorem pl_cons {n : Nat} {x : D} {xs : List D} (h : plN n x = true) (t : xs.all (plN n) = true) : (x :: xs).all (plN n) = true := by rw [List.all_cons, h, t]; rfl
theorem pl_app {n : Nat} {xs ys : List D} (h : xs.all (plN n) = true) (t : ys.all (plN n) = true) : (xs ++ ys).all (plN n) = true := by rw [List.all_append, h, t]; rfl
theorem pl_map {α : Type} {n : Nat} {f : α → D} (l : List α) (h : ∀ x, plN n (f x) = true) : (l.map f).all (plN n) = true := by
  rw [List.all_map, List.all_eq_true]; intro x _; exact h x
theorem map_bl0 {n : Nat} {g : Nat → Bool} : ((List.range n).map fun k => D.bl (g k)) = ((List.range n).map g).map D.bl := by rw [List.map_map]; rfl
theorem allL_r {f : List Bool → Bool} {p : Addr} {n : Nat} {b : Nat → Bool} {h : DH} {Q : QD} (e : h p = some (.lst ((List.range n).map fun k => D.bl (b k)))) (q : Q (.bl (f ((List.range n).map b))) h) : gAllL f [.ref p] h Q := allL_i (by rw [e, map_bl0]) q
theorem all_range {n : Nat} {b : Nat → Bool} (h : ∀ k, k < n → b k = true) : ((List.range n).map b).all id = true := by
  rw [List.all_map, List.all_eq_true]; intro k hk; exact h k (List.mem_range.mp hk)
theorem all_rangeN {n : Nat} {b : Nat → Bool} (k : Nat) (hk : k < n) (h : b k = false) : ((List.range n).map b).all id = false := by
  rw [Bool.eq_false_iff]
  intro z
  rw [List.all_map, List.all_eq_true] at z
  have := z k (List.mem_range.mpr hk)
  rw [show (id ∘ b) k = b k from rfl, h] at this; cases this
end DL
namespace DL
open PySem PySem.Spec PyProof.Rows L2
/-! ### what an object holds for itself -/
structure Prv (hN h : DH) : Prop where
  s : Sub hN h
/-- hN speaks of nothing that h speaks of -/
def Dis (h hN : DH) : Prop := ∀ a o, h a = some o → hN a = none
theorem Dis.at {h hN : DH} {a : Addr} {o : DO} (d : Dis h hN) (e : h a = some o) : hN a = none := d a o e
theorem Dis.sub {h0 h hN : DH} (d : Dis h hN) (s : Sub h0 h) : Dis h0 hN := fun a o e => d a o (s a o e)
def one1 (a : Addr) (o : DO) : DH := fun b => if b = a then some o else none
def two2 (a : Addr) (o : DO) (c : Addr) (u : DO) : DH := fun b => if b = a then some o else if b = c then some u else none
theorem two2_a {a c : Addr} {o u : DO} : two2 a o c u a = some o := by unfold two2; rw [if_pos rfl]
theorem two2_c {a c : Addr} {o u : DO} (n : c ≠ a) : two2 a o c u c = some u := by unfold two2; rw [if_neg n, if_pos rfl]
theorem two2_prv {a c : Addr} {o u : DO} {h : DH} (e1 : h a = some o) (e2 : h c = some u) : Prv (two2 a o c u) h := ⟨fun b w e => by
  unfold two2 at e
  split at e
  · rename_i z; cases e; rw [z]; exact e1
  · split at e
    · rename_i z; cases e; rw [z]; exact e2
    · cases e⟩
theorem two2_dis {a c : Addr} {o u : DO} {h : DH} (e1 : h a = none) (e2 : h c = none) : Dis h (two2 a o c u) := fun b w e => by
  unfold two2
  rw [if_neg (fun z => by subst z; rw [e1] at e; cases e), if_neg (fun z => by subst z; rw [e2] at e; cases e)]
theorem one1_a {a : Addr} {o : DO} : one1 a o a = some o := by unfold one1; rw [if_pos rfl]
theorem one1_prv {a : Addr} {o : DO} {h : DH} (e1 : h a = some o) : Prv (one1 a o) h := ⟨fun b w e => by
  unfold one1 at e
  split at e
  · rename_i z; cases e; rw [z]; exact e1
  · cases e⟩
theorem one1_dis {a : Addr} {o : DO} {h : DH} (e1 : h a = none) : Dis h (one1 a o) := fun b w e => by
  unfold one1
  rw [if_neg (fun z => by subst z; rw [e1] at e; cases e)]
end DL
namespace DL
open PySem PySem.Spec PyProof.Rows L2
theorem ixQ_0 {n : Nat} {k : Nat → Prop} (h : 0 < n) (q : k 0) : ixQ n (.int 0) k := ixQ_i (j := 0) (ixN_nat (i := 0) h) q
theorem ixQ_n {n : Nat} {z : Int} {k : Nat → Prop} (h0 : 0 ≤ z) (h : z < (n : Nat)) (q : k z.toNat) : ixQ n (.int z) k := ixQ_i (j := z.toNat) (by
  obtain ⟨m, rfl⟩ := Int.eq_ofNat_of_zero_le h0
  rw [Int.toNat_natCast]; exact ixN_nat (by omega)) q
end DL
namespace DL
open PySem PySem.Spec PyProof.Rows L2
theorem plN_succ : ∀ (n : Nat) (x : D), plN n x = true → plN (n + 1) x = true
  | 0, x, h => by cases x <;> first | rfl | exact h | (simp [plN] at h; done)
  | n + 1, x, h => by
    cases x with
    | tup xs =>
      have h2 : xs.all (plN n) = true := by simpa [plN] using h
      refine plT ?_
      rw [List.all_eq_true] at h2 ⊢
      exact fun y hy => plN_succ n y (h2 y hy)
    | _ => first | rfl | exact h | (simp [plN] at h; done)
theorem plN_le {n m : Nat} {x : D} (h : plN n x = true) (hm : n ≤ m) : plN m x = true := by
  obtain ⟨k, rfl⟩ := Nat.le.dest hm
  induction k with
  | zero => exact h
  | succ k ih => exact plN_succ _ _ (ih (by omega))
theorem plA_le {n m : Nat} {xs : List D} (h : xs.all (plN n) = true) (hm : n ≤ m) : xs.all (plN m) = true := by
  rw [List.all_eq_true] at h ⊢
  exact fun y hy => plN_le (h y hy) hm
end DL
namespace DL
open PySem PySem.Spec PyProof.Rows L2
theorem geq_yesR {h : DH} {Q : QD} {neg : Bool} {n : Nat} {x y : D} (hn : n ≤ 20) (hy : plN n y = true) (e : x = y) (q : Q (.bl (!neg)) h) : gEq neg x y h Q := geq_yes hn (by rw [e]; exact hy) e q
theorem geqL_yesR {h : DH} {Q : QD} {neg : Bool} {n : Nat} {a b : Addr} {xs ys : List D} (hn : n ≤ 20) (ea : h a = some (.lst xs)) (eb : h b = some (.lst ys)) (hy : ys.all (plN n) = true) (e : xs = ys) (q : Q (.bl (!neg)) h) : gEq neg (.ref a) (.ref b) h Q :=
  geqL_yes hn ea eb (by rw [e]; exact hy) e q
end DL
namespace DL
open PySem PySem.Spec PyProof.Rows L2
theorem lc_upI {i : Nat} {we : WE} {env : Ev} {Q : QD} {gd : DH → Prop} {h1 : DH} {lo : Int} {n : Nat} (f : Nat → Int) (hgd : ∀ h', Sub h1 h' → gd h') (hl : n < sizeLine)
    (hs : ∀ (j : Nat) (h' : DH) (R : QD), j < n → Sub h1 h' → (∀ h'', Sub h' h'' → R (.int (f j)) h'') → we (env.set i (some (.int (lo + (j : Nat))))) h' R (fun _ _ => False))
    (q : ∀ p h', h1 p = none → Sub h1 h' → h' p = some (.lst (((List.range n).map f).map D.int)) → Q (.ref p) h') : LcG i wYes we env Q ⟨upto lo n, gd⟩ h1 :=
  lc_up (fun j => .int (f j)) hgd hl hs fun p h' a b e => q p h' a b (by rw [e, List.map_map]; rfl)
theorem lc_upB {i : Nat} {we : WE} {env : Ev} {Q : QD} {gd : DH → Prop} {h1 : DH} {lo : Int} {n : Nat} (f : Nat → Bool) (hgd : ∀ h', Sub h1 h' → gd h') (hl : n < sizeLine)
    (hs : ∀ (j : Nat) (h' : DH) (R : QD), j < n → Sub h1 h' → (∀ h'', Sub h' h'' → R (.bl (f j)) h'') → we (env.set i (some (.int (lo + (j : Nat))))) h' R (fun _ _ => False))
    (q : ∀ p h', h1 p = none → Sub h1 h' → h' p = some (.lst (((List.range n).map f).map D.bl)) → Q (.ref p) h') : LcG i wYes we env Q ⟨upto lo n, gd⟩ h1 :=
  lc_up (fun j => .bl (f j)) hgd hl hs fun p h' a b e => q p h' a b (by rw [e, List.map_map]; rfl)
end DL
namespace DL
open PySem PySem.Spec PyProof.Rows L2
theorem cut_fr1 {xs : List D} {k : Nat} : cutD xs (some ((k : Int) + 1)) none = xs.drop (k + 1) := by
  rw [show (k : Int) + 1 = ((k + 1 : Nat) : Int) by omega, cut_fr]
theorem cut_to1 {xs : List D} {k : Nat} : cutD xs none (some ((k : Int) + 1)) = xs.take (k + 1) := by
  rw [show (k : Int) + 1 = ((k + 1 : Nat) : Int) by omega, cut_to]
theorem cut_f1 {xs : List D} : cutD xs (some 1) none = xs.drop 1 := cut_fr (k := 1)
theorem cut_f2 {xs : List D} : cutD xs (some 2) none = xs.drop 2 := cut_fr (k := 2)
theorem cut_f3 {xs : List D} : cutD xs (some 3) none = xs.drop 3 := cut_fr (k := 3)
theorem cut_t1 {xs : List D} : cutD xs none (some 1) = xs.take 1 := cut_to (k := 1)
theorem cut_t2 {xs : List D} : cutD xs none (some 2) = xs.take 2 := cut_to (k := 2)
theorem cut_t3 {xs : List D} : cutD xs none (some 3) = xs.take 3 := cut_to (k := 3)
theorem cut_i {xs : List D} {z : Int} (h : 0 ≤ z) : cutD xs none (some z) = xs.take z.toNat := by
  obtain ⟨n, rfl⟩ := Int.eq_ofNat_of_zero_le h
  rw [cut_to, Int.toNat_natCast]
theorem cut_fi {xs : List D} {z : Int} (h : 0 ≤ z) : cutD xs (some z) none = xs.drop z.toNat := by
  obtain ⟨n, rfl⟩ := Int.eq_ofNat_of_zero_le h
  rw [cut_fr, Int.toNat_natCast]
theorem cut_m1 {xs : List D} : cutD xs none (some (-1)) = xs.dropLast := by
  unfold cutD
  rw [HT.sIx_none]
  have e : HT.sIx xs.length xs.length (some (-1)) = xs.length - 1 := by
    simp [HT.sIx]
    omega
  rw [e, List.drop_zero, Nat.sub_zero, List.dropLast_eq_take]
end DL
namespace DL
open PySem PySem.Spec PyProof.Rows L2
/-! ### loops that write what stands outside of hB -/
theorem for_fB {gd : DH → Prop} {g : WG} {b : WS} {E : En} {xs : List D} {env0 : Ev} {h0 : DH} (hB : DH) (ks : List Nat) (I : Nat → List (Option D) → DH → Prop) (vs0 : List (Option D)) (sB : Sub hB h0) (e0 : env0 = setAll env0 ks vs0) (hgd : ∀ i vs h', Sub hB h' → I i vs h' → gd h') (i0 : I 0 vs0 h0)
    (hs : ∀ (i : Nat) (x : D) vs h (N : Ev → DH → Prop), xs[i]? = some x → Sub hB h → I i vs h → (∀ vs2 e2 h2, I (i + 1) vs2 h2 → e2 = setAll env0 ks vs2 → Sub hB h2 → N e2 h2) → g x (setAll env0 ks vs) h fun e1 h1 => b ⟨N, E.rt, E.nx, N, E.rx⟩ e1 h1)
    (hn : ∀ vs h, Sub hB h → I xs.length vs h → E.nx (setAll env0 ks vs) h) : forW gd g b E xs env0 h0 := by
  refine for_ix (fun i env hh => Sub hB hh ∧ ∃ vs, env = setAll env0 ks vs ∧ I i vs hh) ?_ ?_ _ _ ⟨sB, vs0, e0, i0⟩
  · rintro env h ⟨s, vs, rfl, hi⟩; exact hn vs h s hi
  · rintro i x env h N hx ⟨s, vs, rfl, hi⟩ hN
    exact hs i x vs h N hx s hi fun vs2 e2 h2 i2 e s2 => hN _ _ (hgd _ _ _ s2 i2) ⟨s2, vs2, e, i2⟩
theorem for_uB {g : WG} {b : WS} {E : En} {lo : Int} {n : Nat} {env0 : Ev} {h0 : DH} (hB : DH) (ks : List Nat) (I : Nat → List (Option D) → DH → Prop) (vs0 : List (Option D)) (sB : Sub hB h0) (e0 : env0 = setAll env0 ks vs0) (i0 : I 0 vs0 h0)
    (hs : ∀ (i : Nat) vs h (N : Ev → DH → Prop), i < n → Sub hB h → I i vs h → (∀ vs2 e2 h2, I (i + 1) vs2 h2 → e2 = setAll env0 ks vs2 → Sub hB h2 → N e2 h2) → g (.int (lo + (i : Nat))) (setAll env0 ks vs) h fun e1 h1 => b ⟨N, E.rt, E.nx, N, E.rx⟩ e1 h1)
    (hn : ∀ vs h, Sub hB h → I n vs h → E.nx (setAll env0 ks vs) h) : forW (fun _ => True) g b E (upto lo n) env0 h0 := by
  refine for_fB hB ks I vs0 sB e0 (fun _ _ _ _ _ => trivial) i0 (fun i x vs h N hx s hi hN => ?_) (by rw [upto_len]; exact hn)
  obtain ⟨hi', rfl⟩ := upto_get hx
  exact hs i vs h N hi' s hi hN
theorem while_fB {c : WT} {b : WS} {E : En} {env0 : Ev} {h0 : DH} (hB : DH) (ks : List Nat) (I : Nat → List (Option D) → DH → Prop) (vs0 : List (Option D)) (m0 : Nat) (sB : Sub hB h0) (e0 : env0 = setAll env0 ks vs0) (i0 : I m0 vs0 h0)
    (hs : ∀ (m : Nat) vs h (N : Ev → DH → Prop), Sub hB h → I m vs h → (∀ m' vs2 e2 h2, m' < m → I m' vs2 h2 → e2 = setAll env0 ks vs2 → Sub hB h2 → N e2 h2) → c (setAll env0 ks vs) h (fun k h1 => if k = true then b ⟨N, E.rt, E.nx, N, E.rx⟩ (setAll env0 ks vs) h1 else E.nx (setAll env0 ks vs) h1) (fun x h1 => E.rx x (setAll env0 ks vs) h1)) : wWhile c b E env0 h0 := by
  refine while_i (fun m env hh => Sub hB hh ∧ ∃ vs, env = setAll env0 ks vs ∧ I m vs hh) m0 ?_ ⟨sB, vs0, e0, i0⟩
  rintro m env h N ⟨s, vs, rfl, hi⟩ hN
  exact hs m vs h N s hi fun m' vs2 e2 h2 hm i2 e s2 => hN m' _ _ hm ⟨s2, vs2, e, i2⟩
/-- an enumerated list -/
theorem for_enB {gd : DH → Prop} {g : WG} {b : WS} {E : En} {xs : List D} {env0 : Ev} {h0 : DH} (hB : DH) (ks : List Nat) (I : Nat → List (Option D) → DH → Prop) (vs0 : List (Option D)) (sB : Sub hB h0) (e0 : env0 = setAll env0 ks vs0) (hgd : ∀ i vs h', Sub hB h' → I i vs h' → gd h') (i0 : I 0 vs0 h0)
    (hs : ∀ (i : Nat) (x : D) vs h (N : Ev → DH → Prop), xs[i]? = some x → Sub hB h → I i vs h → (∀ vs2 e2 h2, I (i + 1) vs2 h2 → e2 = setAll env0 ks vs2 → Sub hB h2 → N e2 h2) → g (.otup [.int (i : Nat), x]) (setAll env0 ks vs) h fun e1 h1 => b ⟨N, E.rt, E.nx, N, E.rx⟩ e1 h1)
    (hn : ∀ vs h, Sub hB h → I xs.length vs h → E.nx (setAll env0 ks vs) h) : forW gd g b E (enumD 0 xs) env0 h0 := by
  refine for_fB hB ks I vs0 sB e0 hgd i0 (fun i x vs h N hx s hi hN => ?_) (by rw [enumD_len]; exact hn)
  obtain ⟨y, hy, rfl⟩ := enumD_get hx
  rw [Nat.zero_add]
  exact hs i y vs h N hy s hi hN
end DL
namespace DL
theorem ref_ne_tup {a : PySem.Addr} : ∀ xs : List D, D.ref a ≠ .tup xs := fun _ z => nomatch z
theorem sl_ne_tup {a : List D} : ∀ xs : List D, D.sl a ≠ .tup xs := fun _ z => nomatch z
end DL
namespace DL
theorem repLen {α : Type} {n : Nat} {xs : List α} : (List.replicate n xs).flatten.length = n * xs.length := by
  induction n with
  | zero => simp
  | succ n ih => rw [List.replicate_succ, List.flatten_cons, List.length_append, ih, Nat.succ_mul, Nat.add_comm]
end DL
namespace DL
open PySem PySem.Spec PyProof.Rows L2
theorem cut_63 {xs : List D} : cutD xs none (some 63) = xs.take 63 := cut_to (k := 63)
end DL
namespace DL
open PySem PySem.Spec PyProof.Rows L2
theorem zEIntCb {k : Bool} {h : DH} {Q : QD} : gIntC [.bl k] h Q = Q (.int (if k = true then 1 else 0)) h := by cases k <;> rfl
end DL
namespace HT
open PySem PyProof.Rows
section
open PySem.SeqAt
open PySem.AutoSeq1 (wpAny_loadPart')
open PySem.MeetsSeq PySem.MeetsSeq2 PySem.MeetsSeq3
variable {prog : Program} {w : World} {A : Around} {E : Value → Shared → Prop} {s : Shared}
theorem zip_drop {α : Type} (sel : Nat → Bool) (c : Nat) (hs : ∀ k, sel k = decide (k < c)) : ∀ (xs : List α) (n : Nat), (xs.zipIdx n).filterMap (fun p => if sel p.2 = true then none else some p.1) = xs.drop (c - n)
  | [], n => by simp
  | x :: xs, n => by
    rw [List.zipIdx_cons, List.filterMap_cons]
    have ih := zip_drop sel c hs xs (n + 1)
    by_cases h : n < c
    · have e : sel n = true := by rw [hs]; exact decide_eq_true h
      simp only [e, if_true]
      rw [ih, show c - n = (c - (n + 1)) + 1 by omega, List.drop_succ_cons]
    · have e : sel n = false := by rw [hs]; exact decide_eq_false h
      simp only [e, Bool.false_eq_true, if_false]
      rw [ih, show c - n = 0 by omega, show c - (n + 1) = 0 by omega, List.drop_zero, List.drop_zero]
theorem bounds_to {c n : Nat} (hc : c ≤ n) : sliceBounds none (some (c : Int)) none n = (0, (c : Int), 1) := by
  simp only [sliceBounds, Option.getD_none]
  have h2 : ¬ ((c : Int) < 0) := by omega
  simp only [h2, if_false, show (1 : Int) > 0 by decide, if_true]
  congr 1
  congr 1
  omega
theorem sel_to (c k : Nat) : (if (1 : Int) > 0 then (decide ((0 : Int) ≤ (k : Int)) && decide ((k : Int) < (c : Int)) && ((k : Int) - 0) % 1 == 0) else (decide ((c : Int) < (k : Int)) && decide ((k : Int) ≤ 0) && (0 - (k : Int)) % (-1) == 0)) = decide (k < c) := by
  rw [if_pos (by decide)]
  have h1 : decide ((0 : Int) ≤ (k : Int)) = true := decide_eq_true (by omega)
  have h2 : decide ((k : Int) < (c : Int)) = decide (k < c) := by by_cases h : k < c <;> simp [h]
  rw [h1, h2]
  simp
theorem delItem_to {l sl : Addr} {items : Array Value} {n : Nat} {vu : Value} {c : Nat} {Q : Unit → Shared → Prop}
    (e : s.heap.get? l = some { cls := .type "list", data := .seq items n }) (hs : s.heap.IsSliceOf sl .none vu .none) (pu : IsPart vu (some (c : Int))) (hc : c ≤ items.size) (hsz : items.size ≤ sizeLine)
    (h : ∀ f : Array Value → Array Value, (∀ its : List Value, f its.toArray = (its.drop c).toArray) → Q () { s with heap := s.heap.update l (Obj.mapSeq f) }) :
    wpAny (model prog w) A (delItem (.ref l) (.ref sl)) Q E s := by
  have hl : s.heap.IsList l items := PySem.IsL.isList e
  obtain ⟨os, hos, hcs, hds⟩ := id hs
  have hTs : s.TypeIs (.ref sl) "slice" := ⟨os, hos, hcs⟩
  have hstep : ¬ ((rawPart none == rawInt 0) = true) := Bool.false_ne_true
  refine wpAny_delItem_slot hl.typeIs (by decide) F.slot_list_delitem (wpAny_call_entry F.slot_list_delitem hl.typeIs F.entry_list_delitem ?_ (F.args_list_delitem_2 _ _))
  show wpAny _ _ (Builtin.List.listSubscript? (.ref sl) >>= _) _ _ s
  refine wpAny_bind ?_
  unfold Builtin.List.listSubscript?
  refine wpAny_bind (wpAny_specialOf hTs slice_no_index ?_)
  simp only [Option.isNone_none, if_true]
  refine wpAny_pure ?_
  show wpAny _ _ (typeOf (.ref sl) >>= _) _ _ s
  refine wpAny_bind (wpAny_typeOf hTs ?_)
  first
    | rw [if_neg (by decide)]
    | refine PySem.W.KFB.if_not (by decide) ?_
  rw [listSliceParts_eq]
  refine wpAny_bind (wpAny_bind (wpAny_field hos hds (x := .none) rfl (wpAny_bind (wpAny_listPart .none ?_))))
  rw [if_neg hstep]
  refine wpAny_bind (wpAny_field hos hds (x := .none) rfl (wpAny_bind (wpAny_listPart .none ?_)))
  refine wpAny_bind (wpAny_field hos hds (x := vu) rfl (wpAny_bind (wpAny_listPart pu (wpAny_pure ?_))))
  dsimp only
  refine wpAny_bind (wpAny_bind (wpAny_seqItems e rfl (wpAny_pure ?_)))
  refine wpAny_bind (wpAny_of_eq ((sliceIndices_raw none (some (c : Int)) none items.size (by simp)).trans (congrArg (pure : Int × Int × Int → Sem (Int × Int × Int)) (bounds_to hc))) ?_)
  refine wpAny_bind (wpAny_rule ?_)
  refine wpAny_bind (wpAny_updateSeq (hz := hsz) (_hz' := ?hz) e rfl ?_)
  case hz =>
    rw [List.size_toArray]
    refine Nat.le_trans (List.length_filterMap_le _ _) ?_
    rw [List.length_zipIdx, Array.length_toList]
    omega
  refine wpAny_bind (wpAny_letGo ?_)
  refine wpAny_pure ⟨.none, rfl, h _ ?k⟩
  intro its
  exact congrArg List.toArray ((zip_drop (fun k : Nat => if (1 : Int) > 0 then (decide ((0 : Int) ≤ (k : Int)) && decide ((k : Int) < (c : Int)) && ((k : Int) - 0) % 1 == 0) else (decide ((c : Int) < (k : Int)) && decide ((k : Int) ≤ 0) && (0 - (k : Int)) % (-1) == 0)) c (fun k => sel_to c k) its 0).trans (by rw [Nat.sub_zero]))
end
end HT
namespace L2
open PySem PySem.Spec PyProof.Rows
section
variable {X : Cx} {o e : Expr} {to te : TE} {pos tpos p2 : Pos}
/-- del xs[:e] -/
def tDelTo (to te : TE) : TS := fun D σ H => to σ H fun x H1 => te σ H1 fun y H2 => ∃ (l : Addr) (xs : List V) (k : Nat), x = .ref l ∧ y = .int (k : Int) ∧ H2 l = some (.lst xs) ∧ k ≤ xs.length ∧ D.nx σ (upd H2 l (.lst (xs.drop k)))
theorem ps_delTo (ho : PE X o to) (he : PE X e te) : PS X (.Delete [.Subscript o (.Slice none (some e) none p2) tpos] pos) (tDelTo to te) := by
  refine ⟨fun pins s σ H D I h => ?_⟩
  refine wpAny_Delete (wpAny_deleteEach_cons (wpAny_delete_Subscript (thn (ho.run pins s σ H _ I h) fun u s1 ⟨x, H1, I1, rx, q1⟩ => ?_)))
  refine wpAny_Slice ?_
  rw [evalPart_none]
  refine wpAny_pure ?_
  rw [evalPart_some]
  refine thn (he.run pins s1 σ H1 _ I1 q1) fun vu s3 ⟨y, H3, I3, ry, q3⟩ => ?_
  refine wpAny_pure ?_
  obtain ⟨l, xs, k, ex, ey, hH, hk, q3⟩ := q3
  subst ex
  subst ey
  cases (show u = Value.ref l from rx)
  obtain ⟨t, rfl⟩ := (show ∃ t, vu = Value.int (k : Int) t from ry)
  have I4 : Inv X pins σ H3 { s3 with heap := s3.heap.push { cls := .type "slice", data := .fields #[.none, .int (k : Int) t, .none] } } := I3.kept (t' := s3.toks) fun b ob q => Heap.get?_push_of_some _ q
  obtain ⟨z, its, n, r, hl, ee⟩ := I4.lstM hH
  refine HT.delItem_to (c := k) (sl := s3.heap.objs.size) ee (Heap.IsSliceOf.new ..) (.int _ _) (by rw [List.size_toArray]; omega) (by rw [List.size_toArray]; omega) fun f hf => ?_
  have I5 := I4.lset (its' := its.drop k) (t' := s3.toks) (f := f) hH ee (hf its) (r.drop k) (by rw [List.length_drop]; omega)
  exact wpAny_deleteEach_nil ⟨σ, _, I5, q3⟩
end
end L2
namespace HT
open PySem PyProof.Rows
section
open PySem.SeqAt
open PySem.AutoSeq1 (wpAny_loadPart')
open PySem.MeetsSeq PySem.MeetsSeq2 PySem.MeetsSeq3
theorem list_extend_tupD (l : Addr) (items : Array Value) (n : Nat) (b : Addr) (items2 : Array Value) (n2 : Nat) (dd : Option Addr) (sl : Array (Option Value)) (hs0 : ¬(!items.isEmpty && Builtin.List.listTooLong (items.size + items2.size)) = true) (hs1 : items.size ≤ sizeLine) (hs2 : items.size + items2.size ≤ sizeLine + 1) :
    Meets (Builtin.«list.extend» ⟨[.ref l, .ref b], []⟩) (fun _ R s => s.heap.get? l = some { cls := .type "list", dict := none, data := .seq items n, slots := #[] } ∧ s.heap.get? b = some { cls := .type "tuple", dict := dd, data := .seq items2 n2, slots := sl } ∧ R (.ok (.ret Value.none)) { s with heap := s.heap.update l (Obj.mapSeq fun x => x ++ items2), toks := s.toks }) :=
  .of_wp fun prog w A R s h => by
    obtain ⟨hp, g, d, tk, os⟩ := s; obtain ⟨hl, hb, h⟩ := h; have f1 := PySem.AutoSeq1.idx_int; have f2 := PySem.AutoSeq1.sub_tuple_tuple; have f3 := PySem.AutoSeq1.sub_list_list; have f4 := PySem.AutoSeq1.sub_tuple_list; have f5 := PySem.AutoSeq1.sub_list_tuple;
    have hz' : (items ++ items2).size ≤ sizeLine + 1 := by rw [Array.size_append]; exact hs2
    wp_walk using (wpAny_updateSeq hl rfl (hz := hs1) (_hz' := hz')), wpAny_loadPart' hl, wpAny_loadPart' hb; exact ⟨_, rfl, h⟩
end
end HT
namespace L2
open PySem PySem.Spec PyProof.Rows
section
variable {X : Cx}
def rExtendT : V → List V → Hp → VK → Prop := fun x vs H Q => ∃ l b xs zs, x = .ref l ∧ vs = [.ref b] ∧ H l = some (.lst xs) ∧ SqT X.K H b zs ∧ xs.length + zs.length ≤ sizeLine ∧ Q .non (upd H l (.lst (xs ++ zs)))
theorem mt_extendT : MtM X "list.extend" (rExtendT (X := X)) := by
  intro pins s σ H x vs v us Q I rx rv h
  obtain ⟨l, b, xs, zs, rfl, rfl, hH, hB, hz, q⟩ := h
  cases rx
  obtain ⟨u, rfl, ru⟩ := rv.one
  cases ru
  obtain ⟨z, its, n, r, hl, e⟩ := I.lstM hH
  obtain ⟨its2, r2, ⟨⟨cls, dd, dat, sl⟩, e2, hc, n2, hd⟩, z2⟩ := I.tuple hB
  have hc' : cls = .type "tuple" := hc
  have hd' : dat = .seq its2.toArray n2 := hd
  subst hc' hd'
  have l1 := r.length
  have l2 := r2.length
  have hsz : its.toArray.size + its2.toArray.size ≤ sizeLine := by rw [List.size_toArray, List.size_toArray]; omega
  have hlong : ¬ (!its.toArray.isEmpty && Builtin.List.listTooLong (its.toArray.size + its2.toArray.size)) = true := by
    rw [notLongL hsz, Bool.and_false]
    exact Bool.false_ne_true
  refine call_meets F.slot_list_extend ⟨_, e, rfl⟩ F.entry_list_extend (F.args_list_extend_2 _ _)
    (HT.list_extend_tupD l its.toArray n b its2.toArray n2 dd sl hlong (by rw [List.size_toArray]; omega) (by omega)) ⟨e, e2, ?_⟩
  refine ⟨.non, _, I.lset (its' := its ++ its2) hH e (by simp) (r.append r2) ?_, rfl, q⟩
  rw [List.length_append]
  omega
end
end L2
namespace DL
open PySem PySem.Spec PyProof.Rows L2
section
variable {X : Cx} {o e : Expr} {es : List Expr} {wo we : WE} {ws : WA} {apos cpos pos tpos p2 : Pos}
/-- xs.extend(ys): ys a list or a tuple -/
def wExtend (wo : WE) (ws : WA) : WE := fun env h Q Qx => wo env h (fun d h1 => lstQ h1 d (fun _ _ => True) ∧ ws env h1 (fun ds h2 => One (fun x => ItQ h2 x fun ys => (∀ zs, x ≠ .sl zs) ∧ lstQ h2 d fun a xs => xs.length + ys.length ≤ sizeLine ∧ Q .non (dup h2 a (.lst (xs ++ ys)))) ds) Qx) Qx
theorem de_extend (ho : DE X o wo) (ha : DA X (e :: es) ws) (hbase : attributeBase o "extend" X.env (eval o X.env) = eval o X.env := by rfl)
    (hfew : ((backTo cpos (starEach (e :: es) X.env)).all (fun x => !x.1) && (backToKw cpos (keywordEach [] X.env)).all (fun x => x.1.isSome) && decide ((e :: es).length + ([] : List Keyword).length + (if ([] : List Keyword).isEmpty then 0 else 1) < 30)) = true := by rfl)
    (hline : (apos.endLine == cpos.line) = true := by rfl) (hs : starEach (e :: es) X.env = (false, eval e X.env) :: starEach es X.env := by rfl) (hpl : (backTo cpos (starEach es X.env)).any (·.1) = false := by rfl) :
    DE X (.Call (.Attribute o "extend" apos) (e :: es) [] cpos) (wExtend wo ws) :=
  ⟨fun W ck => (pe_bm PySem.F.plainAttrs_list PySem.F.slot_list_extend PySem.F.type_list_extend (MtR.or mt_extend mt_extendT) (ho.ok W ck) (ha.ok W ck) hbase hfew hline hs hpl).imp fun σ H Q ⟨env, h, Qn, Qx, rs, rw_, q, kq, kx⟩ =>
    ⟨env, h, _, Qx, rs, rw_, q, fun d h1 v H1 p1 r1 rd ⟨q0, q1⟩ => by
      obtain ⟨a, xs, rfl, e1, _⟩ := q0.get
      cases rd
      obtain ⟨vs, hv, rr⟩ := r1 _ _ e1
      refine ⟨.inl ⟨rfl, _, SqL.of hv⟩, env, h1, _, Qx, rs.mono p1, r1, q1, fun ds h2 us H2 p2 r2 rds q2 => ?_, kx.mono p1⟩
      obtain ⟨y, yv, rfl, rfl, ry, q2⟩ := one_inv rds q2
      obtain ⟨ys, ei, nsl, q3⟩ := q2.get
      obtain ⟨a', xs2, ea, e2, hz, q3⟩ := q3.get
      cases ea
      obtain ⟨vs2, hv2, rr2⟩ := r2 _ _ e2
      have w : Wr (H2 a) := by rw [hv2]; exact True.intro
      have fin : ∀ (zs : List V), RDs X.K H2 ys zs → Q .non (upd H2 a (.lst (vs2 ++ zs))) := fun zs rz => by
        have pw : Pe H2 (upd H2 a (.lst (vs2 ++ zs))) := Pe.wr w
        exact kq _ _ _ _ ((p1.trans p2).trans pw) (r2.set w (show RO X.K _ a (.lst (xs2 ++ ys)) from ⟨_, upd_same, (rr2.append rz).mono pw⟩)) .non q3
      cases y with
      | tup zs =>
        cases ei
        obtain ⟨b, us, rfl, t, r⟩ := ry.tup_inv
        exact .inr ⟨a, b, vs2, us, rfl, rfl, hv2, t.sqT, by rw [← rr2.length, ← r.length]; exact hz, fin us r⟩
      | sl zs => exact absurd rfl (nsl zs)
      | ref b =>
        cases ry
        unfold items at ei
        dsimp only at ei
        split at ei
        · rename_i zs e3
          cases ei
          obtain ⟨us, hu, ru⟩ := r2 _ _ e3
          exact .inl ⟨a, b, vs2, us, rfl, rfl, hv2, hu, by rw [← rr2.length, ← ru.length]; exact hz, fin us ru⟩
        · cases ei
      | _ => (cases ei), kx⟩⟩
/-- xs.clear() -/
def wClear (wo : WE) : WE := fun env h Q Qx => wo env h (fun d h1 => lstQ h1 d fun a _ => Q .non (dup h1 a (.lst []))) Qx
theorem de_clear (ho : DE X o wo) (hbase : attributeBase o "clear" X.env (eval o X.env) = eval o X.env := by rfl) (hline : (apos.endLine == cpos.line) = true := by rfl) : DE X (.Call (.Attribute o "clear" apos) [] [] cpos) (wClear wo) :=
  ⟨fun W ck => (pe_bm0 PySem.F.plainAttrs_list PySem.F.slot_list_clear PySem.F.type_list_clear mt_clear (ho.ok W ck) hbase hline).imp fun σ H Q ⟨env, h, Qn, Qx, rs, rw_, q, kq, kx⟩ =>
    ⟨env, h, _, Qx, rs, rw_, q, fun d h1 v H1 p1 r1 rd q1 => by
      obtain ⟨a, xs, rfl, e1, q1⟩ := q1.get
      cases rd
      obtain ⟨vs, hv, rr⟩ := r1 _ _ e1
      have w : Wr (H1 a) := by rw [hv]; exact True.intro
      have pw : Pe H1 (upd H1 a (.lst [])) := Pe.wr w
      exact ⟨.inl ⟨rfl, _, SqL.of hv⟩, a, vs, rfl, rfl, hv, kq _ _ _ _ (p1.trans pw) (r1.set w (show RO X.K _ a (.lst []) from ⟨[], upd_same, .nil⟩)) .non q1⟩, kx⟩⟩
/-- del xs[:e] -/
def wDelTo (wo we : WE) : WS := fun E env h => wo env h (fun d h1 => we env h1 (fun i h2 => match i with
  | .int k => lstQ h2 d fun a xs => 0 ≤ k ∧ k.toNat ≤ xs.length ∧ E.nx env (dup h2 a (.lst (xs.drop k.toNat)))
  | _ => False) (fun x h' => E.rx x env h')) (fun x h' => E.rx x env h')
theorem ds_delTo (ho : DE X o wo) (he : DE X e we) : DS X (.Delete [.Subscript o (.Slice none (some e) none p2) tpos] pos) (wDelTo wo we) :=
  ⟨fun W ck => (ps_delTo (ho.ok W ck) (he.ok W ck)).imp fun D σ H ⟨E, env, h, rs, rw_, q, ks⟩ =>
    ⟨env, h, _, _, rs, rw_, q, fun od h1 ov H1 p1 r1 ro q1 => ⟨env, h1, _, _, rs.mono p1, r1, q1, fun idd h2 iv H2 p2 r2 ri q2 => by
      cases idd <;> try exact q2.elim
      rename_i k
      obtain ⟨a, xs, rfl, e1, k0, kl, q3⟩ := q2.get
      cases ro
      cases ri
      obtain ⟨vs, hv, rr⟩ := r2 _ _ e1
      have w : Wr (H2 a) := by rw [hv]; exact True.intro
      have pw : Pe H2 (upd H2 a (.lst (vs.drop k.toNat))) := Pe.wr w
      have p := (p1.trans p2).trans pw
      exact ⟨a, vs, k.toNat, rfl, by rw [Int.toNat_of_nonneg k0], hv, by rw [← rr.length]; exact kl, ks.nx env _ σ _ p (rs.mono p) (r2.set w (show RO X.K _ a (.lst (xs.drop k.toNat)) from ⟨_, upd_same, (rr.drop _).mono pw⟩)) q3⟩, (ks.mono p1).kx (rs.mono p1)⟩, ks.kx rs⟩⟩
theorem zEExtend {env : Ev} {h : DH} {Q : QD} {Qx : QX} : wExtend wo ws env h Q Qx = wo env h (fun d h1 => lstQ h1 d (fun _ _ => True) ∧ ws env h1 (fun ds h2 => One (fun x => ItQ h2 x fun ys => (∀ zs, x ≠ .sl zs) ∧ lstQ h2 d fun a xs => xs.length + ys.length ≤ sizeLine ∧ Q .non (dup h2 a (.lst (xs ++ ys)))) ds) Qx) Qx := rfl
theorem zEClear {env : Ev} {h : DH} {Q : QD} {Qx : QX} : wClear wo env h Q Qx = wo env h (fun d h1 => lstQ h1 d fun a _ => Q .non (dup h1 a (.lst []))) Qx := rfl
theorem zEDelTo {E : En} {env : Ev} {h : DH} : wDelTo wo we E env h = wo env h (fun d h1 => we env h1 (fun i h2 => match i with
  | .int k => lstQ h2 d fun a xs => 0 ≤ k ∧ k.toNat ≤ xs.length ∧ E.nx env (dup h2 a (.lst (xs.drop k.toNat)))
  | _ => False) (fun x h' => E.rx x env h')) (fun x h' => E.rx x env h') := rfl
theorem tup_ne_sl {xs : List D} : ∀ zs : List D, D.tup xs ≠ .sl zs := fun _ z => nomatch z
theorem ref_ne_sl {a : Addr} : ∀ zs : List D, D.ref a ≠ .sl zs := fun _ z => nomatch z
end
end DL
namespace DL
open PySem PySem.Spec PyProof.Rows L2
section
variable {X : Cx}
def gMin2 : GC := fun xs h Q => match xs with
  | [.int i, .int j] => Q (.int (if j < i then j else i)) h
  | _ => False
def gMax2 : GC := fun xs h Q => match xs with
  | [.int i, .int j] => Q (.int (if j > i then j else i)) h
  | _ => False
theorem c_min2 (hc : X.calm = true := by rfl) : OpC X (.builtin "min") gMin2 := by
  refine ⟨_, call_min2 hc, ?_⟩
  intro xs h Qn H vs Q rds rw_ q kq
  unfold gMin2 at q
  split at q
  · cases rds with
    | cons rd t =>
      cases t with
      | cons rd2 t => cases t; cases rd; cases rd2; exact ⟨_, _, rfl, kq.here rw_ (.int _) q⟩
  · exact q.elim
theorem c_max2 (hc : X.calm = true := by rfl) : OpC X (.builtin "max") gMax2 := by
  refine ⟨_, call_max2 hc, ?_⟩
  intro xs h Qn H vs Q rds rw_ q kq
  unfold gMax2 at q
  split at q
  · cases rds with
    | cons rd t =>
      cases t with
      | cons rd2 t => cases t; cases rd; cases rd2; exact ⟨_, _, rfl, kq.here rw_ (.int _) q⟩
  · exact q.elim
theorem zEMin2 {i j : Int} {h : DH} {Q : QD} : gMin2 [.int i, .int j] h Q = Q (.int (if j < i then j else i)) h := rfl
theorem zEMax2 {i j : Int} {h : DH} {Q : QD} : gMax2 [.int i, .int j] h Q = Q (.int (if j > i then j else i)) h := rfl
end
end DL
namespace L2
open PySem PySem.Spec PyProof.Rows HT
section
variable {prog : Program} {w : World} {A : Around} {E : Value → Shared → Prop} {s : Shared}
theorem no_tuple_iadd : typeLookup (.type "tuple") (dunderI "add") = pure none := by rw [typeLookup_type, builtinLookup_eq_fast]; kernel_rfl
theorem iconcat_meets' {T id : String} {B : Builtin} {a b : Value} {S : PySem.Spec} {Q : Value → Shared → Prop} (ha : s.TypeIs a T) (hb : s.TypeIs b T) (hno : typeLookup (.type T) (dunderI "add") = pure none)
    (hfill : fillsNumberSlot (.type T) "add" = pure false) (hseq : seqSlot? (.type T) "__add__" = pure (some (.builtin id))) (slot : Slot T "__add__" id)
    (entry : entryFor table id = some B) (args : argsOk id ⟨[a, b], []⟩) (g : Meets (B ⟨[a, b], []⟩) S) (h : S A (wants Q E) s) : wpAny (model prog w) A (inplaceOp .Add a b) Q E s :=
  wpAny_inplaceOp_concat ha hb hno hfill hseq (call_meets slot ha entry args g h)
theorem icat_tup {t b : Addr} {vs ws : List Value} {Q : Value → Shared → Prop} (ht : IsTup s.heap t vs.toArray) (hb : IsTup s.heap b ws.toArray) (h0 : vs = [] → Q (.ref b) s)
    (h1 : vs ≠ [] → ws = [] → Q (.ref t) s) (h2 : vs ≠ [] → ws ≠ [] → Q (.ref s.heap.objs.size) { s with heap := s.heap.push { cls := .type "tuple", data := .seq (vs ++ ws).toArray } })
    (hsz : vs.length + ws.length ≤ sizeLine) : wpAny (model prog w) A (inplaceOp .Add (.ref t) (.ref b)) Q E s := by
  obtain ⟨⟨cls, dd, data, sl⟩, ho, hc, n, hd⟩ := id ht
  obtain ⟨⟨cls2, dd2, data2, sl2⟩, ho2, hc2, n2, hd2⟩ := id hb
  simp only at hc hd hc2 hd2
  subst hc hd hc2 hd2
  have e : vs.toArray ++ ws.toArray = (vs ++ ws).toArray := by simp
  by_cases hv : vs = []
  · exact iconcat_meets' ⟨_, ho, rfl⟩ ⟨_, ho2, rfl⟩ no_tuple_iadd noFill_tuple_add seq_tuple_add PySem.F.slot_tuple_add PySem.F.entry_tuple_add (PySem.F.args_tuple_add_2 _ _)
      (tuple_addW0 t b vs.toArray ws.toArray n n2 dd dd2 sl sl2 (by simp [hv])) ⟨ho, ho2, h0 hv⟩
  · by_cases hw : ws = []
    · exact iconcat_meets' ⟨_, ho, rfl⟩ ⟨_, ho2, rfl⟩ no_tuple_iadd noFill_tuple_add seq_tuple_add PySem.F.slot_tuple_add PySem.F.entry_tuple_add (PySem.F.args_tuple_add_2 _ _)
        (tuple_addW1 t b vs.toArray ws.toArray n n2 dd dd2 sl sl2 (by simpa using hv) (by simp [hw])) ⟨ho, ho2, h1 hv hw⟩
    · refine iconcat_meets' ⟨_, ho, rfl⟩ ⟨_, ho2, rfl⟩ no_tuple_iadd noFill_tuple_add seq_tuple_add PySem.F.slot_tuple_add PySem.F.entry_tuple_add (PySem.F.args_tuple_add_2 _ _)
        (tuple_addW2 t b vs.toArray ws.toArray n n2 dd dd2 sl sl2 (by simpa using hv) (by simpa using hw) (by rw [List.size_toArray, List.size_toArray]; exact hsz)) ⟨ho, ho2, ?_⟩
      rw [e]
      exact h2 hv hw
end
section
variable {X : Cx}
theorem ip_catA : PIp X .Add (DL.rCatF X.K) := by
  intro pins s σ H x y v u Q I rx ry h
  obtain ⟨a, b, xs, ys, rfl, rfl, ha, hb, hz, q0, q1, q2⟩ := h
  cases rx
  cases ry
  obtain ⟨its, r1, p1, _⟩ := I.tuple ha
  obtain ⟨its2, r2, p2, _⟩ := I.tuple hb
  refine icat_tup p1 p2 (fun z => ⟨.ref b, H, I, rfl, q0 (r1.nil_iff.mp z)⟩) (fun hv z => ⟨.ref a, H, I, rfl, q1 (fun w => hv (r1.nil_iff.mpr w)) (r2.nil_iff.mp z)⟩) (fun hv z => ?_) (by rw [← r1.length, ← r2.length]; exact hz)
  exact I.tnew (t' := s.toks) (by rw [List.length_append]; exact hz) (r1.append r2) (q2 (fun w => hv (r1.nil_iff.mpr w)) fun w => z (r2.nil_iff.mpr w))
end
end L2
namespace DL
open PySem PySem.Spec PyProof.Rows L2
section
variable {X : Cx} {e : Expr} {we : WE} {x : Str} {pos pos' : Pos}
/-- x += e, tuples -/
def wAugT (i : Nat) (we : WE) : WS := fun E env h => match env[i]? with
  | some (some (.tup xs)) => we env h (fun d h1 => match d with
    | .tup ys => xs.length + ys.length ≤ sizeLine ∧ E.nx (env.set i (some (.tup (xs ++ ys)))) h1
    | _ => False) (fun x h1 => E.rx x env h1)
  | _ => False
theorem ds_addT {i : Nat} (hN : X.N.Nodup) (he : DE X e we) (hi : X.N[i]? = some x := by rfl) (hx : Loc X.env.scope x := by first | exact Or.inl rfl | exact Or.inr rfl) (hf : X.fn x = true ∨ X.env.scope.names.lookup x = some .local := by first | exact .inl rfl | exact .inr rfl) :
    DS X (.AugAssign (.Name x pos') .Add e pos) (wAugT i we) := ⟨fun W ck => (ps_aug hN hi hx (he.ok W ck) ip_catA hf).imp fun D σ H ⟨E, env, h, rs, rw_, q, ks⟩ => by
  unfold wAugT at q
  split at q
  · rename_i xs e1
    obtain ⟨v, e2, rv⟩ := rs.get e1
    obtain ⟨a, vs, rfl, ta, ra⟩ := rv.tup_inv
    refine ⟨_, e2, env, h, _, _, rs, rw_, q, fun d h1 v H1 p1 r1 rd q1 => ?_, ks.kx rs⟩
    cases d <;> try exact q1.elim
    rename_i ys
    obtain ⟨b, ws, rfl, tb, rb⟩ := rd.tup_inv
    obtain ⟨hz, q1⟩ := q1
    have ta1 := p1.plT ta
    have ra1 := ra.mono p1
    refine ⟨a, b, vs, ws, rfl, rfl, ta1.sqT, tb.sqT, by rw [← ra1.length, ← rb.length]; exact hz, fun e0 => ?_, fun e0 e3 => ?_, fun _ _ p o hp hd => ?_⟩
    · subst e0
      cases ra1
      exact ks.nx _ h1 _ H1 p1 ((rs.mono p1).set i (.tup tb rb)) r1 q1
    · subst e3
      cases rb
      rw [List.append_nil] at q1
      exact ks.nx _ h1 _ H1 p1 ((rs.mono p1).set i (.tup ta1 ra1)) r1 q1
    · have pn := Pe.new (o := .frz o (.tup (vs ++ ws))) hp
      exact ks.nx _ h1 _ _ (p1.trans pn) ((rs.mono (p1.trans pn)).set i (.tup (.inl ⟨o, upd_same, hd⟩) ((ra1.append rb).mono pn))) (r1.beside hp) q1
  · exact q.elim⟩
theorem zEAugT {i : Nat} {E : En} {env : Ev} {h : DH} : wAugT i we E env h = wVar i env h (fun d _ => match d with
  | .tup xs => we env h (fun d h1 => match d with
    | .tup ys => xs.length + ys.length ≤ sizeLine ∧ E.nx (env.set i (some (.tup (xs ++ ys)))) h1
    | _ => False) (fun x h1 => E.rx x env h1)
  | _ => False) (fun _ _ => False) := by
  unfold wAugT wVar
  cases env[i]? with
  | none => rfl
  | some o =>
    cases o with
    | none => rfl
    | some d => cases d <;> rfl
end
end DL
namespace HT
open PySem PyProof.Rows
open Sem (wp)
open AutoSeq1 (wpAny_loadPart')
theorem meets_enumerate_newT (l : Addr) (items : Array Value) (n : Nat) (dct : Option Addr) (sl : Array (Option Value)) :
    Meets (Builtin.«enumerate.__new__» ⟨[.type "enumerate", .ref l], []⟩) (fun _ R s => s.heap.get? l = some { cls := .type "tuple", dict := dct, data := .seq items n, slots := sl } ∧
      R (.ok (.ret (.ref (s.heap.push { cls := .type "tuple_iterator", data := .fields #[.ref l, .int 0 0] }).objs.size)))
        { s with heap := (s.heap.push { cls := .type "tuple_iterator", data := .fields #[.ref l, .int 0 0] }).push { cls := .type "enumerate", data := .fields #[.none, .bool false, .ref s.heap.objs.size, rawInt 0, .none, .none] } }) :=
  .of_wp fun prog w A R s h => by
    obtain ⟨hp, g, d, tk, os⟩ := s; obtain ⟨hl, h⟩ := h
    have hsub := sub_enumerate
    have hL : Heap.IsTuple (Shared.heap ⟨hp, g, d, tk, os⟩) l items := ⟨_, hl, rfl, n, rfl⟩
    wp_walk using wpAny_loadPart' hl
    refine wpAny_stack_any fun st => wpAny_pure ?_
    split
    · rename_i c _ _ _ _ _
      cases (c == Value.type "enumerate")
      · wp_walk using wpAny_loadPart' hl, wpAny_pyIter_tuple hL
        exact ⟨_, rfl, h⟩
      · wp_walk using wpAny_loadPart' hl, wpAny_pyIter_tuple hL
        exact ⟨_, rfl, h⟩
    · wp_walk using wpAny_loadPart' hl, wpAny_pyIter_tuple hL
      exact ⟨_, rfl, h⟩
section
variable {prog : Program} {w : World} {A : Around} {E : Value → Shared → Prop} {s : Shared}
theorem call_enumerate_tuple {l : Addr} {items : Array Value} {Q : Value → Shared → Prop} (hL : s.heap.IsTuple l items)
    (h : ∀ h', IsEnum h' (s.heap.objs.size + 1) s.heap.objs.size 0 .none → h'.IsTupleIter s.heap.objs.size l 0 → h'.objs.size = s.heap.objs.size + 2 →
      (∀ b o, s.heap.get? b = some o → h'.get? b = some o) → Q (.ref (s.heap.objs.size + 1)) { s with heap := h' }) :
    wpAny (model prog w) A (call (.type "enumerate") [.ref l]) Q E s := by
  obtain ⟨⟨c, dct, dt, sl⟩, hl, hc, n, hd⟩ := hL
  replace hc : c = .type "tuple" := hc
  replace hd : dt = .seq items n := hd
  subst hc hd
  refine callType_new F.called_enumerate (by decide) (F.typeCall_enumerate_1 _) (F.newCall_enumerate_1 _) (fun obj => F.args_object_init_2 obj _) F.entry_enumerate_new
    (meets_enumerate_newT l items n dct sl) ⟨hl, ?_⟩
  have hz : (s.heap.push { cls := .type "tuple_iterator", data := .fields #[.ref l, .int 0 0] }).objs.size = s.heap.objs.size + 1 := Heap.size_push ..
  show _ ∧ _
  rw [hz]
  have he : IsEnum ((s.heap.push { cls := .type "tuple_iterator", data := .fields #[.ref l, .int 0 0] }).push
      { cls := .type "enumerate", data := .fields #[.none, .bool false, .ref s.heap.objs.size, rawInt 0, .none, .none] }) (s.heap.objs.size + 1) s.heap.objs.size 0 .none := by
    have := Heap.get?_push_size (s.heap.push { cls := .type "tuple_iterator", data := .fields #[.ref l, .int 0 0] })
      (o := { cls := .type "enumerate", data := .fields #[.none, .bool false, .ref s.heap.objs.size, rawInt 0, .none, .none] }) rfl
    rw [hz] at this; exact this
  refine ⟨⟨_, he, rfl⟩, h _ he ⟨_, Heap.get?_push_of_some _ (Heap.get?_push_size _ rfl), rfl, rfl⟩ (by rw [Heap.size_push, hz]) fun b o x => Heap.get?_push_of_some _ (Heap.get?_push_of_some _ x)⟩
theorem wpAny_pyNext_enum_endT {e it l : Addr} {i : Nat} {items : Array Value} {old : Value} {Q : Option Value → Shared → Prop} (hh : A.handled = none)
    (he : IsEnum s.heap e it i old) (hit : s.heap.IsTupleIter it l i) (hl : s.heap.IsTuple l items) (hx : items[i]? = none)
    (hQ : ∀ h', Heap.ExtBut it s.heap h' → Q none { s with heap := h' }) : wpAny (model prog w) A (pyNext (.ref e)) Q E s := by
  have hT : s.TypeIs (.ref e) "enumerate" := ⟨_, he, rfl⟩
  unfold pyNext
  refine wpAny_bind (wpAny_attempt (wpAny_callSpecial?_slot (name := Str.ofString "__next__") hT F.slot_enumerate_next
    (wpAny_call_entry F.slot_enumerate_next hT F.entry_enumerate_next ?_ (F.args_enumerate_next_1 _))))
  show wpAny _ _ (field (.ref e) 2 >>= _) _ _ _
  refine wpAny_bind (wpAny_field he rfl (x := .ref it) rfl ?_)
  refine wpAny_bind (wpAny_nextOf_tuple_end hh hit hl hx fun h' x he' hx' => ?_)
  obtain ⟨o, ho, hc⟩ := hx'
  refine wpAny_bind (wpAny_isInstance (T := "StopIteration") (b := true) ⟨o, ho, hc⟩ isSubtype_stop ?_)
  exact wpAny_pure (hQ _ he')
end
end HT
namespace L2
open PySem PySem.Spec PyProof.Rows
/-- the tuple at a, each item in a new pair -/
def IteT (K : PySem.W.Frag) (a : Addr) : It :=
  ⟨fun i H => ∃ (xs : List V) (x : V), SqT K H a xs ∧ xs[i]? = some x, fun i H v H' => ∃ T x, v = .ref T ∧ H T = none ∧ H' = upd H T (.tup [.int (i : Nat), x]) ∧ ∀ xs, SqT K H a xs → xs[i]? = some x, fun i H => ∃ xs : List V, SqT K H a xs ∧ xs.length ≤ i⟩
theorem tup_apart {h : Heap} {e it a : Addr} {k : Int} {i : Nat} {old : Value} {items : Array Value} (he : IsEnum h e it k old) (hit : h.IsTupleIter it a i) (ht : h.IsTuple a items) : a ≠ it ∧ e ∉ [it, a] ∧ e ≠ it := by
  obtain ⟨o1, g1, c1, _⟩ := hit
  obtain ⟨o2, g2, c2, _⟩ := ht
  have n1 : a ≠ it := fun z => by
    subst z; rw [g1] at g2; cases g2; rw [c1] at c2; exact absurd c2 (by decide)
  have n2 : e ≠ it := fun z => by
    subst z
    have he' : h.get? e = _ := he
    rw [g1] at he'; cases he'; exact absurd c1 (show ¬ (Value.type "enumerate" = Value.type "tuple_iterator") by decide)
  have n3 : e ≠ a := fun z => by
    subst z
    have he' : h.get? e = _ := he
    rw [g2] at he'; cases he'; exact absurd c2 (show ¬ (Value.type "enumerate" = Value.type "tuple") by decide)
  exact ⟨n1, by simp [n2, n3], n2⟩
theorem turn_enumT {P : Program} {w : World} {K : PySem.W.Frag} {elts : List Expr} {kk : Nat} {tpos : Pos} (a e it : Addr) :
    Turn P w K (.Tuple elts kk tpos) (IteT K a) [e, it] e (fun i h => (∃ old, IsEnum h e it ((i : Nat) : Int) old) ∧ h.IsTupleIter it a i ∧ e ≠ it) where
  mem := by simp
  obj := fun i h st b hb => by
    obtain ⟨⟨old, he⟩, ⟨o, ho, hc, hd⟩, _⟩ := st
    have e' : b = e ∨ b = it := by simpa using hb
    rcases e' with z | z
    · rw [z]; exact ⟨_, he, fun v q => nomatch q⟩
    · rw [z]; exact ⟨o, ho, fun v q => by rw [hd] at q; cases q⟩
  keep := fun i h h' st k => let ⟨⟨old, he⟩, hi, hne⟩ := st; ⟨⟨old, k e (by simp) _ he⟩, hi.at fun o q => k it (by simp) o q, hne⟩
  item := by
    intro X hP hw hK hc i pins s σ H E I hf st hg
    subst hP hw hK
    obtain ⟨⟨old, he⟩, hit, hne⟩ := st
    obtain ⟨xs, x, hq, hx⟩ := hg
    obtain ⟨its, rv, p, hz⟩ := I.tuple hq
    have p : s.heap.IsTuple a its.toArray := p
    obtain ⟨u, hu, ru⟩ := rv.get hx
    obtain ⟨n1, n2, _⟩ := tup_apart he hit p
    have hel : e < s.heap.objs.size := Heap.lt_size he
    have hil : it < s.heap.objs.size := by obtain ⟨_, q, _⟩ := hit; exact Heap.lt_size q
    have hlt : i < its.toArray.size := by rw [List.size_toArray]; exact (List.getElem?_eq_some_iff.mp hu).1
    refine wpAny_pyNext_enum_itemD (Draws.tuple (A := X.A.in1) (I.ok.hd hc) it a n1 its.toArray) he ⟨hit, p⟩ hlt hne n2 fun y h' tk hy ho hst' hT hsz hk => ?_
    have ey : y = u := by
      have h1 : its[i]? = some y := by simpa using hy
      rw [hu] at h1; cases h1; rfl
    subst ey
    obtain ⟨hit', _⟩ := hst'
    refine ⟨_, rfl, wpAny_letOwnedTupleGo_enum (s := { s with heap := h', toks := tk + 1 }) ho fun h'' he' sb => ?_⟩
    have hT2 : h''.get? s.heap.objs.size = some { cls := .type "tuple", data := .seq #[.int i tk, y] } := (sb.2 _ (Nat.ne_of_gt hel)).trans hT
    have new : ObjOk X.prog X.w (upd H s.heap.objs.size (.tup [.int (i : Nat), x])) h'' s.heap.objs.size (.tup [.int (i : Nat), x]) :=
      ⟨by show 2 ≤ sizeLine; decide, [.int i tk, y], .cons ⟨_, rfl⟩ (.cons ru .nil), ⟨_, hT2, rfl, _, rfl⟩⟩
    have I1 : Inv X pins σ (upd H s.heap.objs.size (.tup [.int (i : Nat), x])) { s with heap := h'', toks := tk + 1 } :=
      I.turnedNew (ch := [e, it]) (fun b ob hb q => (sb.2 b (fun z => hb (by simp [z]))).trans (hk b ob (fun z => hb (by simp [z])) (fun z => hb (by simp [z])) q)) hf (Nat.le_refl _) new
    refine ⟨.ref s.heap.objs.size, _, I1, rfl, ⟨_, x, rfl, I.hok.fresh (Nat.le_refl _), rfl, fun ys hy => by rw [I.tuple_inj hy hq]; exact hx⟩, ⟨⟨y, ?_⟩, hit'.at fun o q => (sb.2 it (Ne.symm hne)).trans q, hne⟩, fun b hb => ?_⟩
    · have e1 : ((i + 1 : Nat) : Int) = (i : Int) + 1 := by omega
      rw [e1]; exact he'
    · have hb' : b < s.heap.objs.size := by
        have e' : b = e ∨ b = it := by simpa using hb
        rcases e' with z | z
        · rw [z]; exact hel
        · rw [z]; exact hil
      rw [upd_ne (Nat.ne_of_lt hb')]
      exact (hf b hb).1
  done := by
    intro X hP hw hK hc i pins s σ H E I hf st hg
    subst hP hw hK
    obtain ⟨⟨old, he⟩, hit, hne⟩ := st
    obtain ⟨xs, hq, hx⟩ := hg
    obtain ⟨its, rv, p, hz⟩ := I.tuple hq
    have p : s.heap.IsTuple a its.toArray := p
    obtain ⟨f0, f1, f2, f3, f4, f5⟩ := hf it (by simp)
    have hl := rv.length
    exact HT.wpAny_pyNext_enum_endT (I.ok.hd hc) he hit p (by simp; omega) fun h' eb => ⟨rfl, I.turned (t' := s.toks) (fun b o hb q => eb b o hb q) f0 f1 f3 f4 f5⟩
  self := fun A i s Q E st h => let ⟨⟨_, he⟩, _⟩ := st; wpAny_pyIter_enum he h
/-- enumerate(e), a list or a tuple -/
def iEnumA (K : PySem.W.Frag) (ta : TA) : TI := fun σ H R => ta σ H fun vs H1 => ∃ a xs, vs = [.ref a] ∧ ((SqL K H1 a xs ∧ R (Ite K a) H1) ∨ (SqT K H1 a xs ∧ R (IteT K a) H1))
theorem pi_enumA {X : Cx} {e : Expr} {ta : TA} {p pos tpos : Pos} {elts : List Expr} {kk : Nat} (hg : Gl X "enumerate") (hm : X.mg "enumerate" = none) (ha : PA X [e] ta) (hs : starEach [e] X.env = [(false, eval e X.env)] := by rfl) :
    PI X (.Tuple elts kk tpos) (.Call (.Name "enumerate" p) [e] [] pos) (iEnumA X.K ta) := by
  refine ⟨fun pins s σ H R I h => ?_⟩
  refine Call_ (ld_blt I hg hm boot_enumerate (PyProof.Rows.callWith_type1 (thn (ha.run pos pins s σ H _ I h) fun us s1 ⟨vs, H1, I1, r1, q1⟩ => ?_) hs rfl))
  obtain ⟨a, xs, ex, q⟩ := q1
  subst ex
  cases r1 with
  | cons r rr =>
    cases rr
    cases r
    have fp : ∀ b ∈ [s1.heap.objs.size + 1, s1.heap.objs.size], FpOk X pins H1 b := fun b hb => by
      have e' : b = s1.heap.objs.size + 1 ∨ b = s1.heap.objs.size := by simpa using hb
      have hle : s1.heap.objs.size ≤ b := by
        rcases e' with z | z
        · rw [z]; exact Nat.le_add_right _ _
        · rw [z]; exact Nat.le_refl _
      exact I1.fpOk hle (I1.hok.fresh hle)
    rcases q with ⟨hq, q⟩ | ⟨hq, q⟩
    · obtain ⟨its, rv, p', hz⟩ := I1.list hq
      refine call_enumerate_list p'.isList fun h' he hit hsz hk => wpAny_pyIter_enum he ?_
      have I2 : Inv X pins σ H1 { s1 with heap := h' } := I1.kept (t' := s1.toks) hk
      exact ⟨s1.heap.objs.size + 1, [s1.heap.objs.size + 1, s1.heap.objs.size], _, _, H1, rfl, I2, turn_enum a (s1.heap.objs.size + 1) s1.heap.objs.size, ⟨⟨.none, he⟩, hit, Nat.succ_ne_self _⟩, fp, q⟩
    · obtain ⟨its, rv, p', hz⟩ := I1.tuple hq
      refine HT.call_enumerate_tuple (show s1.heap.IsTuple a its.toArray from p') fun h' he hit hsz hk => wpAny_pyIter_enum he ?_
      have I2 : Inv X pins σ H1 { s1 with heap := h' } := I1.kept (t' := s1.toks) hk
      exact ⟨s1.heap.objs.size + 1, [s1.heap.objs.size + 1, s1.heap.objs.size], _, _, H1, rfl, I2, turn_enumT a (s1.heap.objs.size + 1) s1.heap.objs.size, ⟨⟨.none, he⟩, hit, Nat.succ_ne_self _⟩, fp, q⟩
end L2
namespace DL
open PySem PySem.Spec PyProof.Rows L2
section
variable {X : Cx} {e : Expr} {we : WE} {p pos tpos : Pos} {elts : List Expr} {kk : Nat} {ws : WA}
/-- enumerate(xs), a list or a tuple -/
def wEnumA (ws : WA) : WI := fun env h Q Qx => ws env h (fun ds h1 => One (fun d => srcQ h1 d fun s => Q ⟨enumD 0 s.xs, s.gd⟩ h1) ds) Qx
theorem it_enumT {K : PySem.W.Frag} {H1 : Hp} {a : Addr} {xs : List D} {gd : DH → Prop} (at_ : ∀ H h, Pe H1 H → RW K h H → gd h → ∃ vs, SqT K H a vs ∧ RDs K H xs vs) : ItOk K H1 ⟨enumD 0 xs, gd⟩ (IteT K a) := fun i H h p rw_ g => by
  obtain ⟨vs, s, r⟩ := at_ H h p rw_ g
  refine ⟨fun x hx => ?_, fun hl => ⟨vs, s, by have hl := Nat.le_of_eq hl.symm; rw [← r.length]; simpa [enumD_len] using hl⟩⟩
  obtain ⟨y, hy, rfl⟩ := enumD_get hx
  obtain ⟨v, hv, rd⟩ := r.get hy
  refine ⟨⟨vs, v, s, hv⟩, fun v' H' z => ?_⟩
  obtain ⟨T, x, rfl, hT, rfl, z⟩ := z
  have z2 := z vs s
  rw [hv] at z2
  cases z2
  refine ⟨Pe.new hT, rw_.beside hT, .otup upd_same ?_⟩
  rw [Nat.zero_add]
  exact .cons (.int _) (.cons (rd.mono (Pe.new hT)) .nil)
theorem di_enumA (hg : Gl X "enumerate") (hm : X.mg "enumerate" = none) (ha : DA X [e] ws) (hs : starEach [e] X.env = [(false, eval e X.env)] := by rfl) : DI X (.Tuple elts kk tpos) (.Call (.Name "enumerate" p) [e] [] pos) (wEnumA ws) :=
  ⟨fun W ck => (pi_enumA hg hm (ha.ok W ck) hs).imp fun σ H R ⟨env, h, Qn, Qx, rs, rw_, q, kr, kx⟩ =>
    ⟨env, h, _, Qx, rs, rw_, q, fun ds h1 vs H1 p1 r1 rds q1 => by
      obtain ⟨d, v, rfl, rfl, rd, q1⟩ := one_inv rds q1
      cases d with
      | tup xs =>
        obtain ⟨a, vs, rfl, t, r⟩ := rd.tup_inv
        exact ⟨a, vs, rfl, .inr ⟨t.sqT, kr _ h1 _ H1 p1 r1 (it_enumT fun H h p rw_ _ => ⟨vs, p.sqT t.sqT, r.mono p⟩) q1⟩⟩
      | sl xs =>
        obtain ⟨a, vs, rfl, t, r⟩ := rd.sl_inv
        exact ⟨a, vs, rfl, .inl ⟨t.seq, kr _ h1 _ H1 p1 r1 (it_enum fun H h p rw_ _ => ⟨vs, (p.stL t).seq, r.mono p⟩) q1⟩⟩
      | ref a =>
        have ev : v = .ref a := rd.ref_inv
        subst ev
        unfold srcQ at q1
        dsimp only at q1
        split at q1
        · rename_i xs e1
          obtain ⟨vs, hv, r⟩ := r1 _ _ e1
          exact ⟨a, vs, rfl, .inl ⟨SqL.of hv, kr _ h1 _ H1 p1 r1 (it_enum fun H h p rw_ g => by
            obtain ⟨vs', hv', r'⟩ := rw_ _ _ g
            exact ⟨vs', SqL.of hv', r'⟩) q1⟩⟩
        · exact q1.elim
      | _ => exact q1.elim, kx⟩⟩
theorem zEEnumA {env : Ev} {h : DH} {Qx : QX} {QI : Src → DH → Prop} : wEnumA ws env h QI Qx = ws env h (fun ds h1 => One (fun d => srcQ h1 d fun s => QI ⟨enumD 0 s.xs, s.gd⟩ h1) ds) Qx := rfl
/-- sum of a list of ints -/
def gSum : GC := fun xs h Q => match xs with
  | [.ref a] => match h a with
    | some (.lst ys) => match intsOf ys with
      | some ns => Q (.int ns.sum) h
      | none => False
    | _ => False
  | _ => False
theorem c_sum (hc : X.calm = true := by rfl) : OpC X (.builtin "sum") gSum := by
  refine ⟨_, cr_sum hc, ?_⟩
  intro xs h Qn H vs Q rds rw_ q kq
  unfold gSum at q
  split at q
  · split at q
    · rename_i ys e1
      split at q
      · rename_i ns e2
        have e' := intsOf_eq e2
        subst e'
        cases rds with
        | cons rd t =>
          cases t; cases rd
          obtain ⟨vs, hv, r⟩ := rw_ _ _ e1
          have e3 := r.ints_inv
          subst e3
          exact ⟨_, ns, rfl, SqL.of hv, kq.here rw_ (.int _) q⟩
      · exact q.elim
    · exact q.elim
  · exact q.elim
theorem sum_i {p : Addr} {ns : List Int} {h : DH} {Q : QD} (e : h p = some (.lst (ns.map D.int))) (q : Q (.int ns.sum) h) : gSum [.ref p] h Q := by
  unfold gSum; dsimp only; rw [e]; dsimp only; rw [intsOf_map]; exact q
end
end DL
namespace DL
open PySem PySem.Spec PyProof.Rows L2
/-! ### comprehensions over pairs: the target two names -/
section
variable {X : Cx} {elt iter c : Expr} {ifs : List Expr} {scope : Scope} {x y z : Str} {pos py pp pz pt spos : Pos} {kk : Nat} {wi : WI} {wt : WT} {we : WE} {i j : Nat}
/-- a tuple, whatever is told of it -/
def unO : D → D
  | .otup xs => .tup xs
  | d => d
theorem unO_inv {K : PySem.W.Frag} {H : Hp} {d : D} {ds : List D} {v : V} (e : unO d = .tup ds) (r : RD K H d v) : ∃ a vs, v = .ref a ∧ SqT K H a vs ∧ RDs K H ds vs := by
  cases d with
  | tup xs =>
    cases e
    obtain ⟨a, vs, e, t, r⟩ := r.tup_inv
    exact ⟨a, vs, e, t.sqT, r⟩
  | otup xs => cases e; exact r.otup_inv
  | _ => cases e
def lcP (p : Addr) (gd : DH → Prop) (i j : Nat) (wt : WT) (we : WE) (env : Ev) (Q : DH → Prop) : List D → DH → Prop
  | [], h => Q h
  | d :: xs, h => ∃ x y, unO d = .tup [x, y] ∧ wt ((env.set i (some x)).set j (some y)) h (fun b h2 => if b = true then we ((env.set i (some x)).set j (some y)) h2 (fun y h3 => lstQ h3 (.ref p) fun _ acc => acc.length < sizeLine ∧ gd (dup h3 p (.lst (acc ++ [y]))) ∧ lcP p gd i j wt we env Q xs (dup h3 p (.lst (acc ++ [y])))) (fun _ _ => False)
      else gd h2 ∧ lcP p gd i j wt we env Q xs h2) (fun _ _ => False)
def LcP (i j : Nat) (wt : WT) (we : WE) (env : Ev) (Q : QD) (s : Src) (h1 : DH) : Prop := ∀ p, h1 p = none → s.gd (dup h1 p (.lst [])) ∧ lcP p s.gd i j wt we env (fun h2 => Q (.ref p) h2) s.xs (dup h1 p (.lst []))
def wLcP (wi : WI) (i j : Nat) (wt : WT) (we : WE) : WE := fun env h Q Qx => wi env h (fun s h1 => LcP i j wt we env Q s h1) Qx
theorem wipe2 {σ : L2.St} (hij : i ≠ j) (v u : V) : ((wipe σ [i, j]).set i (some v)).set j (some u) = (σ.set i (some v)).set j (some u) := by
  show ((((σ.set j none).set i none).set i (some v)).set j (some u)) = _
  rw [List.set_set, List.set_comm _ _ (Ne.symm hij), List.set_set]
theorem wipe2' {σ : L2.St} (hij : i ≠ j) (v u : V) : wipe ((σ.set i (some v)).set j (some u)) [i, j] = wipe σ [i, j] := by
  show (((σ.set i (some v)).set j (some u)).set j none).set i none = (σ.set j none).set i none
  rw [List.set_set, List.set_comm _ _ hij, List.set_set]
theorem lcP_imp {K : PySem.W.Frag} {W : WX} {σ : L2.St} {H : Hp} {Q : VK} (hij : i ≠ j) (h : tE K W (wLcP wi i j wt we) σ H Q) :
    tLc (tI K W wi) (gTup K 2 (gCons (gName i) (gCons (gName j) gNil))) (tT K (fun _ _ _ _ => False) wt) (tE K (fun _ _ _ _ => False) we) [i, j] σ H Q := by
  obtain ⟨env, h, Qn, Qx, rs, rw_, q, kq, kx⟩ := h
  refine ⟨env, h, _, Qx, rs, rw_, q, fun s h1 J H1 p1 r1 it q1 => fun p hp => ?_, kx⟩
  obtain ⟨gd1, q2⟩ := q1 p (r1.fresh hp)
  have pn : Pe H1 (upd H1 p (.lst [])) := Pe.new hp
  refine ⟨fun k m H' => m = s.xs.length - k ∧ k ≤ s.xs.length ∧ ∃ h', Pe (upd H1 p (.lst [])) H' ∧ RW K h' H' ∧ s.gd h' ∧ lcP p s.gd i j wt we env (fun h2 => Qn (.ref p) h2) (s.xs.drop k) h',
    ⟨s.xs.length, by simp, Nat.zero_le _, _, .refl _, r1.new hp (show RO K _ p (.lst []) from ⟨[], upd_same, .nil⟩), gd1, by simpa using q2⟩, ?_⟩
  rintro k m H2 ⟨rfl, hle, h2, p2, r2, gd2, q3⟩
  have pp := pn.trans p2
  by_cases hlt : k < s.xs.length
  · have hx : s.xs[k]? = some s.xs[k] := List.getElem?_eq_getElem hlt
    obtain ⟨go, yl⟩ := (it k H2 h2 pp r2 gd2).1 _ hx
    rw [List.drop_eq_getElem_cons hlt] at q3
    obtain ⟨dx, dy, ed, q3⟩ := q3
    refine .inr ⟨go, fun H' => ∃ h', Pe (upd H1 p (.lst [])) H' ∧ RW K h' H' ∧ s.gd h' ∧ lcP p s.gd i j wt we env (fun h2 => Qn (.ref p) h2) (s.xs.drop (k + 1)) h', fun H' z => ⟨s.xs.length - (k + 1), by omega, rfl, hlt, z⟩, fun v H3 y => ?_⟩
    obtain ⟨p3, r3, rd3⟩ := yl v H3 y
    obtain ⟨a, vs, rfl, ta, ra⟩ := unO_inv ed rd3
    obtain ⟨v1, v2, rfl, rd1, rd2⟩ : ∃ v1 v2, vs = [v1, v2] ∧ RD K H3 dx v1 ∧ RD K H3 dy v2 := by
      cases ra with
      | cons r1 t =>
        cases t with
        | cons r2 t => cases t; exact ⟨_, _, rfl, r1, r2⟩
    refine ⟨a, [v1, v2], rfl, ta, rfl, v1, [v2], rfl, v2, [], rfl, rfl, ?_⟩
    have rs3 : RS K H3 ((env.set i (some dx)).set j (some dy)) (((wipe σ [i, j]).set i (some v1)).set j (some v2)) := by
      rw [wipe2 hij]; exact ((rs.mono (p1.trans (pp.trans p3))).set i rd1).set j rd2
    refine ⟨by rw [wipe2 hij, wipe2' hij], _, h2, _, _, rs3, r3, q3, fun b h4 H4 p4 r4 q4 => ?_, noX⟩
    cases b with
    | false =>
      rw [if_neg Bool.false_ne_true] at q4 ⊢
      exact ⟨h4, p2.trans (p3.trans p4), r4, q4.1, q4.2⟩
    | true =>
      rw [if_pos rfl] at q4 ⊢
      refine ⟨_, h4, _, _, rs3.mono p4, r4, q4, fun d h5 u H5 p5 r5 rd5 q5 => ?_, noX⟩
      obtain ⟨a, acc, ea, e5, hz, g5, q6⟩ := q5.get
      cases ea
      obtain ⟨vs, hv, rr⟩ := r5 _ _ e5
      have w : Wr (H5 p) := by rw [hv]; exact True.intro
      have pw : Pe H5 (upd H5 p (.lst (vs ++ [u]))) := Pe.wr w
      exact ⟨vs, hv, by rw [← rr.length]; exact hz, _, p2.trans (p3.trans (p4.trans (p5.trans pw))), r5.set w (show RO K _ p (.lst (acc ++ [d])) from ⟨_, upd_same, (rr.append (.cons rd5 .nil)).mono pw⟩), g5, q6⟩
  · have e : k = s.xs.length := by omega
    subst e
    rw [List.drop_length] at q3
    exact .inl ⟨(it _ H2 h2 pp r2 gd2).2 rfl, kq (.ref p) h2 (.ref p) H2 (p1.trans pp) r2 (.ref p) q3⟩
theorem de_lcP (hN : X.N.Nodup) (hi : DI X (.Tuple [.Name x pp, .Name z pz] kk pt) iter wi) (ok : BlkOk X.N X.env.scope scope [(x, i), (z, j)]) (hij : i ≠ j)
    (hg : ∀ (s : Shared) (H : Hp) (C : Addr) (cl : List (Str × Addr)) (fp : List Addr), PG (X.blk s H scope (compEnvC scope cl C X.env) fp) (.Tuple [.Name x pp, .Name z pz] kk pt) (gTup X.K 2 (gCons (gName i) (gCons (gName j) gNil))))
    (ht : ∀ (s : Shared) (H : Hp) (C : Addr) (cl : List (Str × Addr)) (fp : List Addr), DTs (X.blk s H scope (compEnvC scope cl C X.env) fp) ifs wt)
    (he : ∀ (s : Shared) (H : Hp) (C : Addr) (cl : List (Str × Addr)) (fp : List Addr), DE (X.blk s H scope (compEnvC scope cl C X.env) fp) elt we)
    (hc : X.calm = true := by rfl) (hs : ∀ x, foldedSetIterable iter X.env x = pure x := by intro _; rfl) : DE X (.ListComp elt [⟨.Tuple [.Name x pp, .Name z pz] kk pt, iter, ifs, 0⟩] scope pos) (wLcP wi i j wt we) :=
  ⟨fun W ck => (pe_lc (own := [(x, i), (z, j)]) hc hN (hi.ok W ck) ok hg (fun s H C cl fp => (ht s H C cl fp).ok _ cok_blk) (fun s H C cl fp => (he s H C cl fp).ok _ cok_blk) hs).imp fun σ H Q h => lcP_imp hij h⟩
theorem ds_setLcP {iy : Nat} (hN : X.N.Nodup) (hi : DI X (.Tuple [.Name x pp, .Name z pz] kk pt) iter wi) (ok : BlkOk X.N X.env.scope scope [(x, i), (z, j)]) (hij : i ≠ j)
    (hg : ∀ (s : Shared) (H : Hp) (C : Addr) (cl : List (Str × Addr)) (fp : List Addr), PG (X.blk s H scope (compEnvC scope cl C X.env) fp) (.Tuple [.Name x pp, .Name z pz] kk pt) (gTup X.K 2 (gCons (gName i) (gCons (gName j) gNil))))
    (ht : ∀ (s : Shared) (H : Hp) (C : Addr) (cl : List (Str × Addr)) (fp : List Addr), DTs (X.blk s H scope (compEnvC scope cl C X.env) fp) ifs wt)
    (he : ∀ (s : Shared) (H : Hp) (C : Addr) (cl : List (Str × Addr)) (fp : List Addr), DE (X.blk s H scope (compEnvC scope cl C X.env) fp) elt we)
    (hsw : swapsWith (.ListComp elt [⟨.Tuple [.Name x pp, .Name z pz] kk pt, iter, ifs, 0⟩] scope pos) (some (.Name y py)) spos.line X.env = pure true)
    (hy : X.N[iy]? = some y := by rfl) (hyl : X.env.scope.names.lookup y = some .local := by rfl)
    (hc : X.calm = true := by rfl) (hs : ∀ x, foldedSetIterable iter X.env x = pure x := by intro _; rfl) : DS X (.Assign [.Name y py] (.ListComp elt [⟨.Tuple [.Name x pp, .Name z pz] kk pt, iter, ifs, 0⟩] scope pos) spos) (wSet iy (wLcP wi i j wt we)) :=
  ⟨fun W ck => (ps_setLc (own := [(x, i), (z, j)]) hc hN hy hyl hsw (hi.ok W ck) ok hg (fun s H C cl fp => (ht s H C cl fp).ok _ cok_blk) (fun s H C cl fp => (he s H C cl fp).ok _ cok_blk) hs).imp fun D σ H ⟨E, env, h, rs, rw_, q, ks⟩ =>
    lcP_imp hij ⟨env, h, _, _, rs, rw_, q, fun d h1 v H1 p1 r1 rd q1 => ks.nx _ h1 _ H1 p1 ((rs.mono p1).set iy rd) r1 q1, ks.kx rs⟩⟩
theorem zELcP {env : Ev} {h : DH} {Q : QD} {Qx : QX} : wLcP wi i j wt we env h Q Qx = wi env h (fun s h1 => LcP i j wt we env Q s h1) Qx := rfl
end
end DL
namespace DL
open PySem PySem.Spec PyProof.Rows L2
section
variable {i j : Nat} {wt : WT} {we : WE} {env : Ev} {gd : DH → Prop}
theorem lcP_i {p : Addr} {Q : DH → Prop} {xs : List D} (J : Nat → DH → Prop) (hn : ∀ hh, J xs.length hh → Q hh)
    (hs : ∀ (k : Nat) (d : D) (hh : DH) (N : DH → Prop), xs[k]? = some d → J k hh → (∀ h', J (k + 1) h' → N h') →
      ∃ x y, unO d = .tup [x, y] ∧ wt ((env.set i (some x)).set j (some y)) hh (fun b h2 => if b = true then we ((env.set i (some x)).set j (some y)) h2 (fun y h3 => lstQ h3 (.ref p) fun _ acc => acc.length < sizeLine ∧ gd (dup h3 p (.lst (acc ++ [y]))) ∧ N (dup h3 p (.lst (acc ++ [y])))) (fun _ _ => False) else gd h2 ∧ N h2) (fun _ _ => False)) :
    ∀ hh, J 0 hh → lcP p gd i j wt we env Q xs hh := by
  have go : ∀ (ys : List D) (k : Nat), ys = xs.drop k → k ≤ xs.length → ∀ h, J k h → lcP p gd i j wt we env Q ys h := by
    intro ys
    induction ys with
    | nil =>
      intro k e hk h hJ
      have : xs.length ≤ k := by simpa using e.symm
      have z : k = xs.length := by omega
      subst z
      exact hn h hJ
    | cons y ys ih =>
      intro k e hk h hJ
      have hlt : k < xs.length := by
        rcases Nat.lt_or_ge k xs.length with q | q
        · exact q
        · rw [List.drop_eq_nil_of_le q] at e; cases e
      have e1 := List.drop_eq_getElem_cons hlt
      rw [e1] at e
      obtain ⟨e2, e3⟩ := List.cons.inj e
      have hx : xs[k]? = some y := by rw [List.getElem?_eq_getElem hlt, e2]
      exact hs k y h (fun h' => lcP p gd i j wt we env Q ys h') hx hJ fun h' hJ' => ih (k + 1) e3 hlt h' hJ'
  exact fun hh hJ => go xs 0 rfl (Nat.zero_le _) hh hJ
theorem lcP_if {Q : QD} {s : Src} {h1 : DH} (b : Nat → Bool) (f : Nat → D) (hgd : ∀ h', Sub h1 h' → s.gd h') (hl : s.xs.length < sizeLine)
    (hs : ∀ (k : Nat) (d : D), s.xs[k]? = some d → ∃ x y, unO d = .tup [x, y] ∧ (∀ (h' : DH) (R : Bool → DH → Prop), Sub h1 h' → (∀ h'', Sub h' h'' → R (b k) h'') → wt ((env.set i (some x)).set j (some y)) h' R (fun _ _ => False)) ∧
      (b k = true → ∀ (h' : DH) (R : QD), Sub h1 h' → (∀ h'', Sub h' h'' → R (f k) h'') → we ((env.set i (some x)).set j (some y)) h' R (fun _ _ => False)))
    (q : ∀ p h', h1 p = none → Sub h1 h' → h' p = some (.lst (((List.range s.xs.length).filter b).map f)) → Q (.ref p) h') : LcP i j wt we env Q s h1 := by
  intro p fp
  refine ⟨hgd _ (Sub.new fp), lcP_i (fun j hh => Sub h1 hh ∧ hh p = some (.lst (((List.range j).filter b).map f)) ∧ j ≤ s.xs.length) ?_ ?_ _ ⟨Sub.new fp, dup_same, Nat.zero_le _⟩⟩
  · rintro hh ⟨sb, e, _⟩
    exact q p hh fp sb e
  · rintro j d hh N hx ⟨sb, e, hj⟩ hN
    have hj' : j < s.xs.length := (List.getElem?_eq_some_iff.mp hx).1
    obtain ⟨x, y, ed, ht, hs⟩ := hs j d hx
    refine ⟨x, y, ed, ht hh _ sb fun h2 sb2 => ?_⟩
    have en : ((List.range (j + 1)).filter b).map f = ((List.range j).filter b).map f ++ (if b j = true then [f j] else []) := by
      rw [List.range_succ, List.filter_append, List.map_append]
      congr 1
      by_cases z : b j = true
      · simp [List.filter, z]
      · simp [List.filter, z]
    split
    · rename_i z
      refine hs z h2 _ (sb.trans sb2) fun h3 sb3 => ?_
      refine lstQ_i (sb3 _ _ (sb2 _ _ e)) ⟨?_, hgd _ (sub_dup0 ((sb.trans sb2).trans sb3) fp), hN _ ⟨sub_dup0 ((sb.trans sb2).trans sb3) fp, ?_, hj'⟩⟩
      · rw [List.length_map]
        have := List.length_filter_le b (List.range j)
        rw [List.length_range] at this
        omega
      · rw [dup_same, en, if_pos z]
    · rename_i z
      exact ⟨hgd _ (sb.trans sb2), hN _ ⟨sb.trans sb2, by rw [en, if_neg z, List.append_nil]; exact sb2 _ _ e, hj'⟩⟩
theorem lcP_en {Q : QD} {xs : List D} {h1 : DH} (b : Nat → Bool) (f : Nat → D) (hgd : ∀ h', Sub h1 h' → gd h') (hl : xs.length < sizeLine)
    (ht : ∀ (k : Nat) (x : D) (h' : DH) (R : Bool → DH → Prop), xs[k]? = some x → Sub h1 h' → (∀ h'', Sub h' h'' → R (b k) h'') → wt ((env.set i (some (.int (k : Nat)))).set j (some x)) h' R (fun _ _ => False))
    (hs : ∀ (k : Nat) (x : D) (h' : DH) (R : QD), xs[k]? = some x → b k = true → Sub h1 h' → (∀ h'', Sub h' h'' → R (f k) h'') → we ((env.set i (some (.int (k : Nat)))).set j (some x)) h' R (fun _ _ => False))
    (q : ∀ p h', h1 p = none → Sub h1 h' → h' p = some (.lst (((List.range xs.length).filter b).map f)) → Q (.ref p) h') : LcP i j wt we env Q ⟨enumD 0 xs, gd⟩ h1 := by
  refine lcP_if b f hgd (by rw [enumD_len]; exact hl) (fun k d hd => ?_) (by rw [enumD_len]; exact q)
  obtain ⟨x, hx, rfl⟩ := enumD_get hd
  rw [Nat.zero_add]
  exact ⟨_, _, rfl, fun h' R sb k' => ht k x h' R hx sb k', fun z h' R sb k' => hs k x h' R hx z sb k'⟩
end
end DL
namespace DL
open PySem PySem.Spec PyProof.Rows L2
section
variable {X : Cx} {x : Str} {p pos : Pos} {e : Expr} {es : List Expr} {ws : WA} {id : String} {g : GC}
def gGcd : GC := fun xs h Q => match xs with
  | [.int i, .int j] => Q (.int ((Nat.gcd i.natAbs j.natAbs : Nat) : Int)) h
  | _ => False
theorem c_gcd : OpC X (.builtin "math.gcd") gGcd := by
  refine ⟨_, cr_gcd, ?_⟩
  intro xs h Qn H vs Q rds rw_ q kq
  unfold gGcd at q
  split at q
  · cases rds with
    | cons rd t =>
      cases t with
      | cons rd2 t => cases t; cases rd; cases rd2; exact ⟨_, _, rfl, kq.here rw_ (.int _) q⟩
  · exact q.elim
theorem de_callBf (o : OpC X (.builtin id) g) (hg : Gl X x) (hm : X.mg x = some (.builtin id)) (ha : DA X (e :: es) ws) (hdb : (x == ("__debug__" : Str)) = false := by decide)
    (he : starEach (e :: es) X.env = (false, eval e X.env) :: starEach es X.env := by rfl) (hpl : (backTo pos (starEach es X.env)).any (·.1) = false := by rfl) : DE X (.Call (.Name x p) (e :: es) [] pos) (wCB g ws) := by
  obtain ⟨r, hr, s⟩ := o
  exact ⟨fun W ck => (pe_callBfun hr hg hm (ha.ok W ck) hdb he hpl).imp fun σ H Q ⟨env, h, Qn, Qx, rs, rw_, q, kq, kx⟩ =>
    ⟨env, h, _, Qx, rs, rw_, q, fun ds h1 vs H1 p1 r1 rds q1 => s ds h1 Qn H1 vs Q rds r1 q1 (kq.mono p1), kx⟩⟩
theorem zEGcd {i j : Int} {h : DH} {Q : QD} : gGcd [.int i, .int j] h Q = Q (.int ((Nat.gcd i.natAbs j.natAbs : Nat) : Int)) h := rfl
end
end DL
namespace DL
open PySem PySem.Spec PyProof.Rows L2
/-! ### receivers of one of several classes -/
section
variable {X : Cx} {e : Expr} {w1 w2 : WE}
def wAlt (w1 w2 : WE) : WE := fun env h Q Qx => w1 env h Q Qx ∨ w2 env h Q Qx
theorem de_alt (h1 : DE X e w1) (h2 : DE X e w2) : DE X e (wAlt w1 w2) :=
  ⟨fun W ck => ⟨fun pins s σ H Q I ⟨env, h, Qn, Qx, rs, rw_, q, kq, kx⟩ => by
    rcases q with q | q
    · exact (h1.ok W ck).run pins s σ H Q I ⟨env, h, Qn, Qx, rs, rw_, q, kq, kx⟩
    · exact (h2.ok W ck).run pins s σ H Q I ⟨env, h, Qn, Qx, rs, rw_, q, kq, kx⟩⟩⟩
theorem zEAlt {env : Ev} {h : DH} {Q : QD} {Qx : QX} : wAlt w1 w2 env h Q Qx = (w1 env h Q Qx ∨ w2 env h Q Qx) := rfl
end
/-! ### methods of texts -/
abbrev GS := Str → List D → DH → QD → Prop
def MtS (X : Cx) (id : String) (g : GS) : Prop := ∃ r, MtR X id r ∧ ∀ a xs h Qn H vs Q, RDs X.K H xs vs → RW X.K h H → g a xs h Qn → KQ X.K H Qn Q → r (.str a) vs H Q
def StrK (d : D) (k : Str → Prop) : Prop := match d with
  | .str a => k a
  | _ => False
theorem StrK.get {d : D} {k : Str → Prop} (q : StrK d k) : ∃ a, d = .str a ∧ k a := by
  cases d <;> first | exact q.elim | exact ⟨_, rfl, q⟩
def wMtS (g : GS) (wo : WE) (ws : WA) : WE := fun env h Q Qx => wo env h (fun d h1 => StrK d fun a => ws env h1 (fun ds h2 => g a ds h2 Q) Qx) Qx
section
variable {X : Cx} {o e : Expr} {es : List Expr} {wo : WE} {ws : WA} {apos cpos : Pos} {name : Str} {id : String} {g : GS}
theorem de_mtS (m : MtS X id g) (slot : Slot "str" name id) (hty : typeOf (.builtin id) = pure (.type "method_descriptor")) (ho : DE X o wo) (ha : DA X (e :: es) ws) (hbase : attributeBase o name X.env (eval o X.env) = eval o X.env := by rfl)
    (hfew : ((backTo cpos (starEach (e :: es) X.env)).all (fun x => !x.1) && (backToKw cpos (keywordEach [] X.env)).all (fun x => x.1.isSome) && decide ((e :: es).length + ([] : List Keyword).length + (if ([] : List Keyword).isEmpty then 0 else 1) < 30)) = true := by rfl)
    (hline : (apos.endLine == cpos.line) = true := by rfl) (hs : starEach (e :: es) X.env = (false, eval e X.env) :: starEach es X.env := by rfl) (hpl : (backTo cpos (starEach es X.env)).any (·.1) = false := by rfl) :
    DE X (.Call (.Attribute o name apos) (e :: es) [] cpos) (wMtS g wo ws) := by
  obtain ⟨r, hr, s⟩ := m
  exact ⟨fun W ck => (pe_bm PySem.F.plainAttrs_str slot hty hr (ho.ok W ck) (ha.ok W ck) hbase hfew hline hs hpl).imp fun σ H Q ⟨env, h, Qn, Qx, rs, rw_, q, kq, kx⟩ =>
    ⟨env, h, _, Qx, rs, rw_, q, fun d h1 v H1 p1 r1 rd q0 => by
      obtain ⟨a, rfl, q1⟩ := q0.get
      cases rd
      exact ⟨rfl, env, h1, _, Qx, rs.mono p1, r1, q1, fun ds h2 us H2 p2 r2 rds q2 => s a ds h2 Qn H2 us Q rds r2 q2 (kq.mono (p1.trans p2)), kx.mono p1⟩, kx⟩⟩
end
def strsOf : List D → Option (List Str)
  | [] => some []
  | .str i :: xs => (strsOf xs).map (i :: ·)
  | _ :: _ => none
theorem strsOf_map : ∀ ns : List Str, strsOf (ns.map D.str) = some ns
  | [] => rfl
  | n :: ns => by rw [List.map_cons, strsOf, strsOf_map ns]; rfl
theorem strsOf_eq : ∀ {xs : List D} {ns : List Str}, strsOf xs = some ns → xs = ns.map D.str
  | [], ns, e => by cases e; rfl
  | .str i :: xs, ns, e => by
    rw [strsOf] at e
    cases e1 : strsOf xs with
    | none => rw [e1] at e; cases e
    | some ms => rw [e1] at e; cases e; rw [List.map_cons, strsOf_eq e1]
  | .non :: _, _, e => by cases e
  | .bl _ :: _, _, e => by cases e
  | .int _ :: _, _, e => by cases e
  | .tup _ :: _, _, e => by cases e
  | .sl _ :: _, _, e => by cases e
  | .ref _ :: _, _, e => by cases e
/-- sep.join(xs) -/
def JoinQ (h : DH) (a : Str) (x : D) (k : Str → Prop) : Prop := ∃ ys : List Str, items h x = some (ys.map D.str) ∧ (ys.map (·.length)).sum + ys.length * a.length ≤ 16777216 ∧ k (Txt.join a ys)
def gJoin : GS := fun a xs h Q => One (fun x => JoinQ h a x fun z => Q (.str z) h) xs
section
variable {X : Cx}
theorem s_join : MtS X "str.join" gJoin := by
  refine ⟨_, mt_join, ?_⟩
  intro a xs h Qn H vs Q rds rw_ q kq
  obtain ⟨d, v, rfl, rfl, rd, ys, ei, hz, q⟩ := one_inv rds q
  obtain ⟨p, us, rfl, hs, r⟩ := items_ok rd rw_ ei
  have := r.strs_inv
  subst this
  exact ⟨a, p, ys, rfl, rfl, hs, hz, kq.here rw_ (.str _) q⟩
/-- a.find(b), a.find(b, i), a.startswith(b), a.startswith(b, i) -/
def gFindS : GS := fun a xs h Q => match xs with
  | [.str b] => Q (.int (Txt.find a b)) h
  | _ => False
theorem s_find : MtS X "str.find" gFindS := by
  refine ⟨_, mt_find, ?_⟩
  intro a xs h Qn H vs Q rds rw_ q kq
  unfold gFindS at q
  split at q
  · cases rds with
    | cons rd t => cases t; cases rd; exact ⟨_, _, rfl, rfl, kq.here rw_ (.int _) q⟩
  · exact q.elim
def gFind3 : GS := fun a xs h Q => match xs with
  | [.str b, .int i] => Q (.int (Txt.find3 a b i)) h
  | _ => False
theorem s_find3 : MtS X "str.find" gFind3 := by
  refine ⟨_, mt_find3, ?_⟩
  intro a xs h Qn H vs Q rds rw_ q kq
  unfold gFind3 at q
  split at q
  · cases rds with
    | cons rd t =>
      cases t with
      | cons rd2 t => cases t; cases rd; cases rd2; exact ⟨_, _, _, rfl, rfl, kq.here rw_ (.int _) q⟩
  · exact q.elim
def gStarts : GS := fun a xs h Q => match xs with
  | [.str b] => Q (.bl (Txt.startswith a b)) h
  | _ => False
theorem s_starts : MtS X "str.startswith" gStarts := by
  refine ⟨_, mt_startswith, ?_⟩
  intro a xs h Qn H vs Q rds rw_ q kq
  unfold gStarts at q
  split at q
  · cases rds with
    | cons rd t => cases t; cases rd; exact ⟨_, _, rfl, rfl, kq.here rw_ (.bl _) q⟩
  · exact q.elim
def gStarts3 : GS := fun a xs h Q => match xs with
  | [.str b, .int i] => Q (.bl (Txt.startswith3 a b i)) h
  | _ => False
theorem s_starts3 : MtS X "str.startswith" gStarts3 := by
  refine ⟨_, mt_startswith3, ?_⟩
  intro a xs h Qn H vs Q rds rw_ q kq
  unfold gStarts3 at q
  split at q
  · cases rds with
    | cons rd t =>
      cases t with
      | cons rd2 t => cases t; cases rd; cases rd2; exact ⟨_, _, _, rfl, rfl, kq.here rw_ (.bl _) q⟩
  · exact q.elim
/-- a in b, texts -/
def gInS (neg : Bool) : G2 := fun x y h Q => match x, y with
  | .str i, .str j => Q (.bl (if neg = true then !(!(Builtin.Str.occurrences j i 0 j.length 1).isEmpty) else !(Builtin.Str.occurrences j i 0 j.length 1).isEmpty)) h
  | _, _ => False
theorem o_inS : Op2 X (compareOp .In) (gInS false) := by
  refine ⟨_, op_in_str, ?_⟩
  intro x y h Qn H vx vy Q rx ry rw_ q kq
  cases x <;> try exact q.elim
  cases y <;> try exact q.elim
  cases rx; cases ry
  exact ⟨_, _, rfl, rfl, kq.here rw_ (.bl _) q⟩
theorem o_notinS : Op2 X (compareOp .NotIn) (gInS true) := by
  refine ⟨_, op_notIn_str, ?_⟩
  intro x y h Qn H vx vy Q rx ry rw_ q kq
  cases x <;> try exact q.elim
  cases y <;> try exact q.elim
  cases rx; cases ry
  exact ⟨_, _, rfl, rfl, kq.here rw_ (.bl _) q⟩
end
section
variable {g : GS} {wo : WE} {ws : WA} {env : Ev} {h : DH} {Q : QD} {Qx : QX} {a b : Str} {i : Int} {x : D} {k : Str → Prop}
theorem zEMtS : wMtS g wo ws env h Q Qx = wo env h (fun d h1 => StrK d fun a => ws env h1 (fun ds h2 => g a ds h2 Q) Qx) Qx := rfl
theorem zStrK : StrK (.str a) k = k a := rfl
theorem zGJoin : gJoin a [x] h Q = JoinQ h a x (fun z => Q (.str z) h) := rfl
theorem zGFindS : gFindS a [.str b] h Q = Q (.int (Txt.find a b)) h := rfl
theorem zGFind3 : gFind3 a [.str b, .int i] h Q = Q (.int (Txt.find3 a b i)) h := rfl
theorem zGStarts : gStarts a [.str b] h Q = Q (.bl (Txt.startswith a b)) h := rfl
theorem zGStarts3 : gStarts3 a [.str b, .int i] h Q = Q (.bl (Txt.startswith3 a b i)) h := rfl
theorem zGInS {neg : Bool} : gInS neg (.str b) (.str a) h Q = Q (.bl (if neg = true then !(!(Builtin.Str.occurrences a b 0 a.length 1).isEmpty) else !(Builtin.Str.occurrences a b 0 a.length 1).isEmpty)) h := rfl
theorem join_i {p : Addr} {ys : List Str} (e : h p = some (.lst (ys.map D.str))) (hz : (ys.map (·.length)).sum + ys.length * a.length ≤ 16777216) (q : k (Txt.join a ys)) : JoinQ h a (.ref p) k := ⟨ys, by unfold items; dsimp only; rw [e], hz, q⟩
end
end DL
namespace DL
open PySem PySem.Spec PyProof.Rows L2
/-! ### texts of a bounded length -/
def So (n : Nat) (s : Str) : Prop := PyData.strOk s = true ∧ s.length ≤ n
theorem So.le {n m : Nat} {s : Str} (h : So n s) (l : n ≤ m) : So m s := ⟨h.1, Nat.le_trans h.2 l⟩
theorem slen_add (a b : Str) : (a ++ b).length = a.length + b.length := by show (a.cps ++ b.cps).size = _; rw [Array.size_append]; rfl
theorem So.add {n m : Nat} {a b : Str} (h : So n a) (k : So m b) : So (n + m) (a ++ b) := by
  refine ⟨?_, by rw [slen_add]; exact Nat.add_le_add h.2 k.2⟩
  have h1 := h.1
  have k1 := k.1
  unfold PyData.strOk at h1 k1 ⊢
  show (a.cps ++ b.cps).all _ = true
  rw [Array.all_append, h1, k1]; rfl
def sg (c : Nat) : Str := ⟨#[c]⟩
theorem So.sg {c : Nat} (h : c < 0x110000) : So 1 (DL.sg c) := ⟨by
  unfold PyData.strOk DL.sg
  simp only [List.all_toArray, List.all_cons, List.all_nil, Bool.and_true]
  exact decide_eq_true h, Nat.le_refl 1⟩
theorem So.empty : So 0 Str.empty := ⟨by decide +kernel, by decide +kernel⟩
theorem slen_cps (s : Str) : s.length = s.cps.toList.length := rfl
theorem So.of_sub {n : Nat} {s t : Str} (h : So n s) (hm : ∀ c ∈ t.cps.toList, c ∈ s.cps.toList) (hl : t.length ≤ n) : So n t := by
  refine ⟨?_, hl⟩
  have h1 := h.1
  unfold PyData.strOk at h1 ⊢
  rw [← Array.all_toList, List.all_eq_true] at h1 ⊢
  exact fun c hc => h1 c (hm c hc)
theorem So.cut {n : Nat} {s : Str} (h : So n s) (lo hi : Option Int) : So n (cutS s lo hi) := by
  refine h.of_sub (fun c hc => ?_) ?_
  · have : c ∈ ((s.cps.toList.drop (HT.sIx s.length 0 lo)).take (HT.sIx s.length s.length hi - HT.sIx s.length 0 lo)) := by simpa [cutS] using hc
    exact List.mem_of_mem_drop (List.mem_of_mem_take this)
  · rw [slen_cps]
    have e : (cutS s lo hi).cps.toList = ((s.cps.toList.drop (HT.sIx s.length 0 lo)).take (HT.sIx s.length s.length hi - HT.sIx s.length 0 lo)) := by simp [cutS]
    rw [e, List.length_take, List.length_drop]
    have := h.2
    rw [slen_cps] at this
    omega
theorem joinE : ∀ (ys : List Str), (∀ y ∈ ys, So 1 y) → So ys.length (Str.join Str.empty ys)
  | [], _ => So.empty
  | [x], h => h x List.mem_cons_self
  | x :: y :: r, h => by
    have ih := joinE (y :: r) (fun z hz => h z (List.mem_cons_of_mem _ hz))
    have := ((h x List.mem_cons_self).add So.empty).add ih
    exact this.le (by simp only [List.length_cons]; omega)
theorem join_So {ys : List Str} (h : ∀ y ∈ ys, So 1 y) : So ys.length (Txt.join Str.empty ys) := by
  have e : Txt.join Str.empty ys = Str.join Str.empty ys := PySem.StrLaws.glued_eq_join _ _
  rw [e]; exact joinE ys h
theorem joinN : ∀ {n : Nat} (ys : List Str), (∀ y ∈ ys, So n y) → So (n * ys.length) (Str.join Str.empty ys)
  | n, [], _ => So.empty.le (Nat.zero_le _)
  | n, [x], h => (h x List.mem_cons_self).le (by rw [List.length_singleton, Nat.mul_one]; exact Nat.le_refl _)
  | n, x :: y :: r, h => by
    have ih := joinN (y :: r) (fun z hz => h z (List.mem_cons_of_mem _ hz))
    have := ((h x List.mem_cons_self).add So.empty).add ih
    refine this.le ?_
    simp only [List.length_cons, Nat.mul_succ]; omega
theorem join_SoN {n : Nat} {ys : List Str} (h : ∀ y ∈ ys, So n y) : So (n * ys.length) (Txt.join Str.empty ys) := by
  have e : Txt.join Str.empty ys = Str.join Str.empty ys := PySem.StrLaws.glued_eq_join _ _
  rw [e]; exact joinN ys h
theorem sum_le {n : Nat} : ∀ {ys : List Str}, (∀ y ∈ ys, So n y) → (ys.map (·.length)).sum ≤ n * ys.length
  | [], _ => Nat.zero_le _
  | y :: ys, h => by
    have h1 := (h y List.mem_cons_self).2
    have h2 := sum_le (n := n) (ys := ys) fun z hz => h z (List.mem_cons_of_mem _ hz)
    rw [List.map_cons, List.sum_cons, List.length_cons, Nat.mul_succ]; omega
theorem empE : ("" : Str) = Str.empty := by decide +kernel
/-! ### where a text stands in another -/
def occB (s o : Str) (i : Nat) : Bool := decide (i + o.length ≤ s.length) && Builtin.Str.subAt s o i
theorem occB_at {s o : Str} {i : Nat} : occB s o i = true ↔ PySem.StrLaws.At s o s.length i := by
  unfold occB PySem.StrLaws.At
  rw [Bool.and_eq_true, decide_eq_true_eq]
theorem occ_from (s o : Str) (lo : Nat) : (Builtin.Str.occurrences s o lo s.length 1 = [] ∧ ∀ i, lo ≤ i → occB s o i = false) ∨
    ∃ a r, Builtin.Str.occurrences s o lo s.length 1 = a :: r ∧ lo ≤ a ∧ occB s o a = true ∧ ∀ k, lo ≤ k → k < a → occB s o k = false := by
  have no : ∀ i, ¬ PySem.StrLaws.At s o s.length i → occB s o i = false := fun i h => Bool.eq_false_iff.mpr fun z => h (occB_at.mp z)
  rw [PySem.StrLaws.occ_eq]
  rcases PySem.StrLaws.occ_first s o s.length 1 (Nat.le_refl 1) (List.range' lo (s.length + 1 - lo)) lo (fun i hi => (List.mem_range'_1.mp hi).1) with ⟨e, hn⟩ | ⟨p, a, q, el, e, ha, hn⟩
  · refine .inl ⟨by rw [e], fun i hi => no i fun z => ?_⟩
    have z1 := z.1
    exact hn i (List.mem_range'_1.mpr ⟨hi, by omega⟩) z
  · have hal : a ∈ List.range' lo (s.length + 1 - lo) := by rw [el]; exact List.mem_append_right _ List.mem_cons_self
    generalize (forIn (List.range' lo (s.length + 1 - lo)) ((#[] : Array Nat), lo) (PySem.StrLaws.occBody s o s.length 1)).run.fst = arr at e
    obtain ⟨xs⟩ := arr
    cases xs with
    | nil => simp at e
    | cons b t =>
      have eb : b = a := by simpa using e
      subst eb
      refine .inr ⟨b, t, rfl, (List.mem_range'_1.mp hal).1, occB_at.mpr ha, fun k h1 h2 => no k (hn k ?_)⟩
      have ord : (List.range' lo (s.length + 1 - lo)).Pairwise (· < ·) := List.pairwise_lt_range'
      have hk : k ∈ List.range' lo (s.length + 1 - lo) := List.mem_range'_1.mpr ⟨h1, by have := (List.mem_range'_1.mp hal).2; omega⟩
      rw [el] at ord hk
      rcases List.mem_append.mp hk with z | z
      · exact z
      · rcases List.mem_cons.mp z with z | z
        · omega
        · have := List.rel_of_pairwise_cons (List.pairwise_append.mp ord).2.1 z
          omega
/-- the first place from lo on, or -1 -/
def findN (s o : Str) (lo : Nat) : Int := match Builtin.Str.occurrences s o lo s.length 1 with
  | k :: _ => (k : Int)
  | [] => -1
theorem findN_spec (s o : Str) (lo : Nat) : (findN s o lo = -1 ∧ ∀ i, lo ≤ i → occB s o i = false) ∨ ∃ a : Nat, findN s o lo = (a : Int) ∧ lo ≤ a ∧ occB s o a = true ∧ ∀ k, lo ≤ k → k < a → occB s o k = false := by
  unfold findN
  rcases occ_from s o lo with ⟨e, h⟩ | ⟨a, r, e, h⟩
  · rw [e]; exact .inl ⟨rfl, h⟩
  · rw [e]; exact .inr ⟨a, rfl, h⟩
theorem find_N (s o : Str) : Txt.find s o = findN s o 0 := by
  unfold Txt.find findN
  cases Builtin.Str.occurrences s o 0 s.length 1 <;> rfl
theorem find3_N (s o : Str) (k : Nat) : Txt.find3 s o (k : Int) = findN s o k := by
  unfold Txt.find3 findN
  have e : fromIndex s.length (k : Int) = k := by unfold fromIndex; rw [if_neg (by omega)]; omega
  rw [e]
  cases Builtin.Str.occurrences s o k s.length 1 <;> rfl
theorem starts3_N (s o : Str) (k : Nat) : Txt.startswith3 s o (k : Int) = occB s o k := by
  unfold Txt.startswith3 occB
  have e : fromIndex s.length (k : Int) = k := by unfold fromIndex; rw [if_neg (by omega)]; omega
  rw [e]
theorem occB_lt {s o : Str} {i : Nat} (ho : 1 ≤ o.length) (h : occB s o i = true) : i < s.length := by
  have := (occB_at.mp h).1; omega
theorem cut_occ {s o : Str} {i : Nat} (hi : i < s.length) : cutS s (some (i : Int)) (some ((i : Int) + ((o.length : Nat) : Int))) = o ↔ occB s o i = true := by
  have e1 : HT.sIx s.length 0 (some (i : Int)) = i := by rw [HT.sIx_nat]; omega
  have e2 : HT.sIx s.length s.length (some ((i : Int) + ((o.length : Nat) : Int))) = min (i + o.length) s.length := by rw [← Int.natCast_add, HT.sIx_nat]
  unfold cutS
  rw [e1, e2]
  unfold occB
  rw [Bool.and_eq_true, decide_eq_true_eq, PySem.StrLaws.subAt_eq, beq_iff_eq]
  have hs : s.cps.toList.length = s.length := rfl
  have hz : o.cps.toList.length = o.length := rfl
  constructor
  · intro e
    have e3 : (s.cps.toList.drop i).take (min (i + o.length) s.length - i) = o.cps.toList := congrArg (fun z : Str => z.cps.toList) e
    have e4 := congrArg List.length e3
    rw [List.length_take, List.length_drop, hs, hz] at e4
    have e5 : i + o.length ≤ s.length := by omega
    refine ⟨e5, ?_⟩
    rw [Nat.min_eq_left e5, Nat.add_sub_cancel_left] at e3
    exact e3
  · rintro ⟨e5, e3⟩
    rw [Nat.min_eq_left e5, Nat.add_sub_cancel_left, e3]
theorem geqS {h : DH} {Q : QD} {neg : Bool} {a b : Str} (ha : PyData.strOk a = true) (hb : PyData.strOk b = true) (q : Q (.bl (if neg = true then !decide (a = b) else decide (a = b))) h) : gEq neg (.str a) (.str b) h Q := by
  by_cases z : a = b
  · rw [decide_eq_true z] at q
    exact geq_yes (n := 0) (by decide) (plS ha) (by rw [z]) (by cases neg <;> exact q)
  · rw [decide_eq_false z] at q
    exact geq_no (n := 0) (by decide) (plS ha) (plS hb) (fun w => z (by injection w)) (by cases neg <;> exact q)
/-- x in l: plain data in a list -/
theorem gInL_i {h : DH} {Q : QD} {neg : Bool} {n : Nat} {p : Addr} {x : D} {xs : List D} {b : Bool} (hn : n ≤ 20) (e : h p = some (.lst xs)) (hx : plN n x = true) (hxs : xs.all (plN n) = true) (hb : x ∈ xs ↔ b = true) (q : Q (.bl (if neg = true then !b else b)) h) : gIn neg x (.ref p) h Q := by
  unfold gIn
  rw [py_ls e hxs, show py h x = some (pdN n x) from pyD_pl n x hx]
  dsimp only
  have eb : (xs.map (pdN n)).any (fun z => PyData.eqv z (pdN n x)) = b := by
    rw [Bool.eq_iff_iff, ← hb, List.any_map, List.any_eq_true]
    rw [List.all_eq_true] at hxs
    constructor
    · rintro ⟨y, hy, e⟩
      have := (eqv_pl n y x (hxs y hy) hx).mp e
      rw [← this]; exact hy
    · intro hm
      exact ⟨x, hm, (eqv_pl n x x hx hx).mpr rfl⟩
  rw [eb]
  exact ⟨shaped_pl hn x hx, shaped_pls hn xs hxs, q⟩
theorem lc_upS {i : Nat} {we : WE} {env : Ev} {Q : QD} {gd : DH → Prop} {h1 : DH} {lo : Int} {n : Nat} (f : Nat → Str) (hgd : ∀ h', Sub h1 h' → gd h') (hl : n < sizeLine)
    (hs : ∀ (j : Nat) (h' : DH) (R : QD), j < n → Sub h1 h' → (∀ h'', Sub h' h'' → R (.str (f j)) h'') → we (env.set i (some (.int (lo + (j : Nat))))) h' R (fun _ _ => False))
    (q : ∀ p h', h1 p = none → Sub h1 h' → h' p = some (.lst (((List.range n).map f).map D.str)) → Q (.ref p) h') : LcG i wYes we env Q ⟨upto lo n, gd⟩ h1 :=
  lc_up (fun j => .str (f j)) hgd hl hs fun p h' a b e => q p h' a b (by rw [e, List.map_map]; rfl)
theorem zLenQ_str {h : DH} {z : Str} {k : Nat → Prop} : LenQ h (.str z) k = (z.length ≤ sizeLine ∧ k z.length) := rfl
theorem zGAdd_str {h : DH} {Q : QD} {a b : Str} : gAdd (.str a) (.str b) h Q = (a.length + b.length ≤ sizeLine ∧ Q (.str (a ++ b)) h) := rfl
theorem zGSl_str {h : DH} {Q : QD} {z : Str} {lo hi : Option Int} : gSl (.str z) lo hi h Q = (z.length ≤ sizeLine ∧ Q (.str (cutS z lo hi)) h) := rfl
theorem zGIx_str {h : DH} {Q : QD} {z : Str} {i : Int} : gIx (.str z) (.int i) h Q = (z.length ≤ sizeLine ∧ QAt h Q ((atI z.cps.toList i).map fun c => .str ⟨#[c]⟩)) := rfl
end DL
namespace DL
open PySem PySem.Spec PyProof.Rows L2
/-! ### what a law never comes to -/
section
variable {X : Cx}
theorem ds_dead {st : Stmt} : DS X st (fun _ _ _ => False) := ⟨fun W ck => ⟨fun pins s σ H D I ⟨_, _, _, _, _, q, _⟩ => q.elim⟩⟩
theorem de_dead {e : Expr} : DE X e (fun _ _ _ _ => False) := ⟨fun W ck => ⟨fun pins s σ H Q I ⟨_, _, _, _, _, _, q, _⟩ => q.elim⟩⟩
end
/-! ### dicts -/
def keyD : D → Option Key
  | .int i => some (.inl i)
  | .str x => some (.inr x)
  | _ => none
def keysD : List D → Option (List Key)
  | [] => some []
  | x :: xs => match keyD x, keysD xs with
    | some k, some ks => some (k :: ks)
    | _, _ => none
def kD : Key → D
  | .inl i => .int i
  | .inr x => .str x
section
variable {κ : Type} [DecidableEq κ]
def valD (kvs : List (κ × D)) (k : κ) : Option D := (kvs.find? fun kv => decide (kv.1 = k)).map (·.2)
def putK2 (kvs : List (κ × D)) (k : κ) (v : D) : List (κ × D) :=
  if (kvs.any fun kv => decide (kv.1 = k)) = true then kvs.map (fun kv => if kv.1 = k then (kv.1, v) else kv) else kvs ++ [(k, v)]
end
section
variable {K : PySem.W.Frag} {H : Hp} {h : DH}
theorem keyD_ok {d : D} {v : V} {k : Key} (r : RD K H d v) (e : keyD d = some k) : v = kV k := by
  cases r <;> first | (cases e; rfl) | (cases e; done)
theorem keysD_ok : ∀ {ds : List D} {vs : List V} {ks : List Key}, RDs K H ds vs → keysD ds = some ks → vs = ks.map kV
  | _, _, _, .nil, e => by cases e; rfl
  | d :: ds, _, ks, .cons r t, e => by
    rw [keysD] at e
    split at e
    · rename_i k ks' e1 e2
      cases e
      rw [keyD_ok r e1, keysD_ok t e2]; rfl
    · cases e
inductive OD (K : PySem.W.Frag) (H : Hp) : Option D → Option V → Prop
  | none : OD K H none none
  | some {d : D} {v : V} (r : RD K H d v) : OD K H (some d) (some v)
variable {κ : Type} [DecidableEq κ]
theorem valD_rel {k : κ} : ∀ {kvs : List (κ × D)} {vs : List (κ × V)}, vs.map (·.1) = kvs.map (·.1) → RDs K H (kvs.map (·.2)) (vs.map (·.2)) → OD K H (valD kvs k) (valV vs k)
  | [], [], _, _ => .none
  | [], _ :: _, e, _ => by simp at e
  | _ :: _, [], e, _ => by simp at e
  | (a, d) :: kvs, (b, v) :: vs, e, r => by
    rw [List.map_cons, List.map_cons, List.cons.injEq] at e
    have e1 : b = a := e.1
    subst e1
    rw [List.map_cons, List.map_cons] at r
    cases r with
    | cons r t =>
      unfold valD valV
      rw [List.find?_cons, List.find?_cons]
      by_cases z : b = k
      · rw [show decide ((b, d).1 = k) = true from decide_eq_true z]
        exact .some r
      · rw [show decide ((b, d).1 = k) = false from decide_eq_false z]
        exact valD_rel e.2 t
theorem any_rel {k : κ} : ∀ {kvs : List (κ × D)} {vs : List (κ × V)}, vs.map (·.1) = kvs.map (·.1) → (vs.any fun kv => decide (kv.1 = k)) = kvs.any fun kv => decide (kv.1 = k)
  | [], [], _ => rfl
  | [], _ :: _, e => by simp at e
  | _ :: _, [], e => by simp at e
  | (a, d) :: kvs, (b, v) :: vs, e => by
    rw [List.map_cons, List.map_cons, List.cons.injEq] at e
    have e1 : b = a := e.1
    subst e1
    rw [List.any_cons, List.any_cons, any_rel e.2]
theorem repl_rel {k : κ} {d : D} {v : V} (rd : RD K H d v) : ∀ {kvs : List (κ × D)} {vs : List (κ × V)}, vs.map (·.1) = kvs.map (·.1) → RDs K H (kvs.map (·.2)) (vs.map (·.2)) →
    (vs.map fun kv => if kv.1 = k then (kv.1, v) else kv).map (·.1) = (kvs.map fun kv => if kv.1 = k then (kv.1, d) else kv).map (·.1) ∧ RDs K H ((kvs.map fun kv => if kv.1 = k then (kv.1, d) else kv).map (·.2)) ((vs.map fun kv => if kv.1 = k then (kv.1, v) else kv).map (·.2))
  | [], [], _, _ => ⟨rfl, .nil⟩
  | [], _ :: _, e, _ => by simp at e
  | _ :: _, [], e, _ => by simp at e
  | (a, x) :: kvs, (b, y) :: vs, e, r => by
    rw [List.map_cons, List.map_cons, List.cons.injEq] at e
    have e1 : b = a := e.1
    subst e1
    rw [List.map_cons, List.map_cons] at r
    cases r with
    | cons r t =>
      obtain ⟨i1, i2⟩ := repl_rel rd e.2 t
      simp only [List.map_cons]
      by_cases z : b = k
      · rw [if_pos z, if_pos z]; exact ⟨congrArg (b :: ·) i1, .cons rd i2⟩
      · rw [if_neg z, if_neg z]; exact ⟨congrArg (b :: ·) i1, .cons r i2⟩
theorem put2_rel {k : κ} {d : D} {v : V} (rd : RD K H d v) {kvs : List (κ × D)} {vs : List (κ × V)} (e : vs.map (·.1) = kvs.map (·.1)) (r : RDs K H (kvs.map (·.2)) (vs.map (·.2))) :
    (putK vs k v).map (·.1) = (putK2 kvs k d).map (·.1) ∧ RDs K H ((putK2 kvs k d).map (·.2)) ((putK vs k v).map (·.2)) := by
  unfold putK putK2
  rw [any_rel e]
  split
  · exact repl_rel rd e r
  · rw [List.map_append, List.map_append, List.map_append, List.map_append]
    exact ⟨by rw [e]; rfl, r.append (.cons rd .nil)⟩
theorem len_rel {κ : Type} {kvs : List (κ × D)} {vs : List (κ × V)} (e : vs.map (·.1) = kvs.map (·.1)) : vs.length = kvs.length := by
  have := congrArg List.length e
  simpa using this
end
/-- a key that is a tuple -/
def keyT : D → Option (List Key)
  | .otup ds => keysD ds
  | _ => none
theorem keyT_ok {K : PySem.W.Frag} {H : Hp} {d : D} {v : V} {q : List Key} (r : RD K H d v) (e : keyT d = some q) : ∃ b, v = .ref b ∧ H b = some (.tup (q.map kV)) := by
  cases r with
  | otup t r => exact ⟨_, rfl, by rw [← keysD_ok r e]; exact t⟩
  | _ => cases e
/-- d's value at y -/
def dGet (h : DH) (d y : D) (k : Option D → Prop) : Prop := match d with
  | .ref a => match h a with
    | some (.dK kvs) => match keyD y with
      | some q => k (valD kvs q)
      | none => False
    | some (.lkK _ _ kvs) => match keyD y with
      | some q => k (valD kvs q)
      | none => False
    | some (.dT kvs) => match keyT y with
      | some q => k (valD kvs q)
      | none => False
    | some (.lkT _ _ kvs) => match keyT y with
      | some q => k (valD kvs q)
      | none => False
    | _ => False
  | _ => False
/-- behind d[y] = v -/
def dPut (h : DH) (d y v : D) (k : DH → Prop) : Prop := match d with
  | .ref a => match h a with
    | some (.dK kvs) => match keyD y with
      | some q => kvs.length < sizeLine ∧ k (dup h a (.dK (putK2 kvs q v)))
      | none => False
    | some (.dT kvs) => match keyT y with
      | some q => kvs.length < sizeLine ∧ k (dup h a (.dT (putK2 kvs q v)))
      | none => False
    | _ => False
  | _ => False
def isD (h : DH) (d : D) : Prop := match d with
  | .ref a => match h a with
    | some (.dK _) => True
    | some (.dT _) => True
    | some (.lkK _ _ _) => True
    | some (.lkT _ _ _) => True
    | _ => False
  | _ => False
section
variable {K : PySem.W.Frag} {H : Hp} {h : DH}
theorem isD_ok {d : D} {v : V} (rd : RD K H d v) (rw_ : RW K h H) (q : isD h d) : ∃ a, v = .ref a ∧ IsD H a := by
  unfold isD at q
  split at q
  · rename_i a
    cases rd
    split at q
    · rename_i kvs e
      obtain ⟨vs, hv, _, _⟩ := rw_ _ _ e
      exact ⟨_, rfl, .inl ⟨vs, .inl hv⟩⟩
    · rename_i kvs e
      obtain ⟨vs, hv, _, _⟩ := rw_ _ _ e
      exact ⟨_, rfl, .inr ⟨vs, .inl hv⟩⟩
    · rename_i od vs kvs e
      exact ⟨_, rfl, .inl ⟨vs, .inr ⟨od, (rw_ _ _ e).1⟩⟩⟩
    · rename_i od vs kvs e
      exact ⟨_, rfl, .inr ⟨vs, .inr ⟨od, (rw_ _ _ e).1⟩⟩⟩
    · exact q.elim
  · exact q.elim
theorem dGet_ok {d y : D} {v u : V} {k : Option D → Prop} (rd : RD K H d v) (ry : RD K H y u) (rw_ : RW K h H) (q : dGet h d y k) : ∃ a o oD, v = .ref a ∧ DGet H a u o ∧ OD K H oD o ∧ k oD := by
  unfold dGet at q
  split at q
  · rename_i a
    cases rd
    split at q
    · rename_i kvs e
      split at q
      · rename_i z e1
        obtain ⟨vs, hv, en, rr⟩ := rw_ _ _ e
        exact ⟨_, _, _, rfl, by rw [keyD_ok ry e1]; exact DGet.k hv, valD_rel en rr, q⟩
      · exact q.elim
    · rename_i od vs kvs e
      split at q
      · rename_i z e1
        obtain ⟨hv, en, rr⟩ := rw_ _ _ e
        exact ⟨_, _, _, rfl, .inl ⟨vs, z, .inr ⟨od, hv⟩, keyD_ok ry e1, rfl⟩, valD_rel en rr, q⟩
      · exact q.elim
    · rename_i kvs e
      split at q
      · rename_i z e1
        obtain ⟨vs, hv, en, rr⟩ := rw_ _ _ e
        obtain ⟨b, eu, hb⟩ := keyT_ok ry e1
        exact ⟨_, _, _, rfl, .inr ⟨vs, z, b, .inl hv, eu, hb, rfl⟩, valD_rel en rr, q⟩
      · exact q.elim
    · rename_i od vs kvs e
      split at q
      · rename_i z e1
        obtain ⟨hv, en, rr⟩ := rw_ _ _ e
        obtain ⟨b, eu, hb⟩ := keyT_ok ry e1
        exact ⟨_, _, _, rfl, .inr ⟨vs, z, b, .inr ⟨od, hv⟩, eu, hb, rfl⟩, valD_rel en rr, q⟩
      · exact q.elim
    · exact q.elim
  · exact q.elim
theorem dPut_ok {d y x : D} {v u w : V} {k : DH → Prop} (rd : RD K H d v) (ry : RD K H y u) (rx : RD K H x w) (rw_ : RW K h H) (q : dPut h d y x k) : ∃ a H', v = .ref a ∧ DPut H a u w H' ∧ Pe H H' ∧ ∃ h', RW K h' H' ∧ k h' := by
  unfold dPut at q
  split at q
  · rename_i a
    cases rd
    split at q
    · rename_i kvs e
      split at q
      · rename_i z e1
        obtain ⟨vs, hv, en, rr⟩ := rw_ _ _ e
        obtain ⟨n2, r2⟩ := put2_rel (k := z) rx en rr
        have wr : Wr (H a) := by rw [hv]; exact True.intro
        have pw : Pe H (upd H a (.dK (putK vs z w))) := Pe.wr wr
        exact ⟨_, _, rfl, by rw [keyD_ok ry e1]; exact DPut.k hv (by rw [len_rel en]; exact q.1), pw, _, rw_.set wr (show RO K _ a (.dK (putK2 kvs z x)) from ⟨_, upd_same, n2, r2.mono pw⟩), q.2⟩
      · exact q.elim
    · rename_i kvs e
      split at q
      · rename_i z e1
        obtain ⟨vs, hv, en, rr⟩ := rw_ _ _ e
        obtain ⟨n2, r2⟩ := put2_rel (k := z) rx en rr
        obtain ⟨b, eu, hb⟩ := keyT_ok ry e1
        have wr : Wr (H a) := by rw [hv]; exact True.intro
        have pw : Pe H (upd H a (.dT (putK vs z w))) := Pe.wr wr
        exact ⟨_, _, rfl, .inr ⟨vs, z, b, hv, eu, hb, by rw [len_rel en]; exact q.1, rfl⟩, pw, _, rw_.set wr (show RO K _ a (.dT (putK2 kvs z x)) from ⟨_, upd_same, n2, r2.mono pw⟩), q.2⟩
      · exact q.elim
    · exact q.elim
  · exact q.elim
end
section
variable {X : Cx} {o i e f : Expr} {wo wi we wf : WE} {pos pos' apos cpos : Pos}
def wDGet (wo wi : WE) : WE := fun env h Q Qx => wo env h (fun d h1 => wi env h1 (fun y h2 => dGet h2 d y fun r => match r with
  | some v => Q v h2
  | none => False) Qx) Qx
theorem de_dget (hu : X.A.units + 1 < cLine) (ho : DE X o wo) (hi : DE X i wi) (hs : NoSl i := by exact fun _ _ => rfl) : DE X (.Subscript o i pos) (wDGet wo wi) :=
  ⟨fun W ck => (pe_dget hu (ho.ok W ck) (hi.ok W ck) hs).imp fun σ H Q ⟨env, h, Qn, Qx, rs, rw_, q, kq, kx⟩ =>
    ⟨env, h, _, Qx, rs, rw_, q, fun d h1 v H1 p1 r1 rd q1 => ⟨env, h1, _, Qx, rs.mono p1, r1, q1, fun y h2 u H2 p2 r2 ry q2 => by
      obtain ⟨a, ov, oD, ea, g, od, q3⟩ := dGet_ok (rd.mono p2) ry r2 q2
      cases od with
      | none => exact q3.elim
      | some r => exact ⟨a, _, ea, g, kq _ _ _ _ (p1.trans p2) r2 r q3⟩, kx.mono p1⟩, kx⟩⟩
def wGet1 (wo wi : WE) : WE := fun env h Q Qx => wo env h (fun d h1 => isD h1 d ∧ wi env h1 (fun y h2 => dGet h2 d y fun r => Q (r.getD .non) h2) Qx) Qx
theorem de_get1 (hu : X.A.units + 1 < cLine) (ho : DE X o wo) (he : DE X e we) (m : M1 X o "get" apos e cpos := by exact ⟨rfl, rfl, rfl, rfl⟩) : DE X (.Call (.Attribute o "get" apos) [e] [] cpos) (wGet1 wo we) :=
  ⟨fun W ck => (pe_dget1 hu (ho.ok W ck) (he.ok W ck) m).imp fun σ H Q ⟨env, h, Qn, Qx, rs, rw_, q, kq, kx⟩ =>
    ⟨env, h, _, Qx, rs, rw_, q, fun d h1 v H1 p1 r1 rd ⟨q0, q1⟩ => by
      obtain ⟨a, ea, ia⟩ := isD_ok rd r1 q0
      refine ⟨a, ea, ia, env, h1, _, Qx, rs.mono p1, r1, q1, fun y h2 u H2 p2 r2 ry q2 => ?_, kx.mono p1⟩
      obtain ⟨a', ov, oD, ea', g, od, q3⟩ := dGet_ok (rd.mono p2) ry r2 q2
      rw [ea] at ea'
      cases ea'
      refine ⟨ov, g, ?_⟩
      cases od with
      | none => exact kq _ _ _ _ (p1.trans p2) r2 .non q3
      | some r => exact kq _ _ _ _ (p1.trans p2) r2 r q3, kx⟩⟩
def wGet2 (wo wi wf : WE) : WE := fun env h Q Qx => wo env h (fun d h1 => isD h1 d ∧ wi env h1 (fun y h2 => wf env h2 (fun x h3 => dGet h3 d y fun r => Q (r.getD x) h3) Qx) Qx) Qx
theorem de_get2 (hu : X.A.units + 1 < cLine) (ho : DE X o wo) (he : DE X e we) (hf : DE X f wf) (m : M2 X o "get" apos e f cpos := by exact ⟨rfl, rfl, rfl, rfl⟩) : DE X (.Call (.Attribute o "get" apos) [e, f] [] cpos) (wGet2 wo we wf) :=
  ⟨fun W ck => (pe_dget2 hu (ho.ok W ck) (he.ok W ck) (hf.ok W ck) m).imp fun σ H Q ⟨env, h, Qn, Qx, rs, rw_, q, kq, kx⟩ =>
    ⟨env, h, _, Qx, rs, rw_, q, fun d h1 v H1 p1 r1 rd ⟨q0, q1⟩ => by
      obtain ⟨a, ea, ia⟩ := isD_ok rd r1 q0
      refine ⟨a, ea, ia, env, h1, _, Qx, rs.mono p1, r1, q1, fun y h2 u H2 p2 r2 ry q2 => ⟨env, h2, _, Qx, rs.mono (p1.trans p2), r2, q2, fun x h3 xv H3 p3 r3 rx q4 => ?_, kx.mono (p1.trans p2)⟩, kx.mono p1⟩
      obtain ⟨a', ov, oD, ea', g, od, q3⟩ := dGet_ok ((rd.mono p2).mono p3) (ry.mono p3) r3 q4
      rw [ea] at ea'
      cases ea'
      refine ⟨ov, g, ?_⟩
      cases od with
      | none => exact kq _ _ _ _ (p1.trans (p2.trans p3)) r3 rx q3
      | some r => exact kq _ _ _ _ (p1.trans (p2.trans p3)) r3 r q3, kx⟩⟩
def wDIn (neg : Bool) (wi wo : WE) : WE := fun env h Q Qx => wi env h (fun y h1 => wo env h1 (fun d h2 => dGet h2 d y fun r => Q (.bl (if neg = true then !r.isSome else r.isSome)) h2) Qx) Qx
theorem od_some {K : PySem.W.Frag} {H : Hp} {a : Option D} {b : Option V} (r : OD K H a b) : a.isSome = b.isSome := by cases r <;> rfl
theorem din_ok {K : PySem.W.Frag} {W : WX} {σ : L2.St} {H : Hp} {Q : VK} (h : tE K W (wDIn false wi wo) σ H Q) : tDIn (tE K W wi) (tE K W wo) σ H Q := by
  obtain ⟨env, h, Qn, Qx, rs, rw_, q, kq, kx⟩ := h
  refine ⟨env, h, _, Qx, rs, rw_, q, fun y h1 u H1 p1 r1 ry q1 => ⟨env, h1, _, Qx, rs.mono p1, r1, q1, fun d h2 v H2 p2 r2 rd q2 => ?_, kx.mono p1⟩, kx⟩
  obtain ⟨a, ov, oD, ea, g, od, q3⟩ := dGet_ok rd (ry.mono p2) r2 q2
  have q3 : Qn (.bl oD.isSome) h2 := q3
  rw [od_some od] at q3
  exact ⟨a, ov, ea, g, kq _ _ _ _ (p1.trans p2) r2 (.bl _) q3⟩
theorem dnotin_ok {K : PySem.W.Frag} {W : WX} {σ : L2.St} {H : Hp} {Q : VK} (h : tE K W (wDIn true wi wo) σ H Q) : tDNotIn (tE K W wi) (tE K W wo) σ H Q := by
  obtain ⟨env, h, Qn, Qx, rs, rw_, q, kq, kx⟩ := h
  refine ⟨env, h, _, Qx, rs, rw_, q, fun y h1 u H1 p1 r1 ry q1 => ⟨env, h1, _, Qx, rs.mono p1, r1, q1, fun d h2 v H2 p2 r2 rd q2 => ?_, kx.mono p1⟩, kx⟩
  obtain ⟨a, ov, oD, ea, g, od, q3⟩ := dGet_ok rd (ry.mono p2) r2 q2
  have q3 : Qn (.bl (!oD.isSome)) h2 := q3
  rw [od_some od] at q3
  exact ⟨a, ov, ea, g, kq _ _ _ _ (p1.trans p2) r2 (.bl _) q3⟩
theorem de_din (hu : X.A.units + 1 < cLine) (hi : DE X i wi) (ho : DE X o wo) (hm : behindInMarks .In o = false := by rfl) : DE X (.Compare i [.In] [o] pos) (wDIn false wi wo) :=
  ⟨fun W ck => (pe_cmp (pc_din hu (hi.ok W ck) (ho.ok W ck)) hm).imp fun σ H Q h => din_ok h⟩
theorem de_dnotin (hu : X.A.units + 1 < cLine) (hi : DE X i wi) (ho : DE X o wo) (hm : behindInMarks .NotIn o = false := by rfl) : DE X (.Compare i [.NotIn] [o] pos) (wDIn true wi wo) :=
  ⟨fun W ck => (pe_cmp (pc_dnotin hu (hi.ok W ck) (ho.ok W ck)) hm).imp fun σ H Q h => dnotin_ok h⟩
def wDPut (wo wi we : WE) : WS := fun E env h => we env h (fun x h1 => wo env h1 (fun d h2 => wi env h2 (fun y h3 => dPut h3 d y x fun h4 => E.nx env h4) (fun x h1 => E.rx x env h1)) (fun x h1 => E.rx x env h1)) (fun x h1 => E.rx x env h1)
theorem ds_dput (hu : X.A.units + 1 < cLine) (ho : DE X o wo) (hi : DE X i wi) (he : DE X e we) (hs : swapsWith e (some (.Subscript o i pos')) pos.line X.env = pure false := by rfl) : DS X (.Assign [.Subscript o i pos'] e pos) (wDPut wo wi we) :=
  ⟨fun W ck => (ps_dput hu (ho.ok W ck) (hi.ok W ck) (he.ok W ck) hs).imp fun D σ H ⟨E, env, h, rs, rw_, q, ks⟩ =>
    ⟨env, h, _, _, rs, rw_, q, fun x h1 xv H1 p1 r1 rx q1 => ⟨env, h1, _, _, rs.mono p1, r1, q1, fun d h2 v H2 p2 r2 rd q2 => ⟨env, h2, _, _, rs.mono (p1.trans p2), r2, q2, fun y h3 u H3 p3 r3 ry q3 => by
      obtain ⟨a, H4, ea, g, p4, h4, r4, q4⟩ := dPut_ok (rd.mono p3) ry ((rx.mono p2).mono p3) r3 q3
      have pp := p1.trans (p2.trans (p3.trans p4))
      exact ⟨a, H4, ea, g, ks.nx env h4 σ H4 pp (rs.mono pp) r4 q4⟩, (ks.kx rs).mono (p1.trans p2)⟩, (ks.kx rs).mono p1⟩, ks.kx rs⟩⟩
def wDNew (o : DO) : WE := fun _ h Q _ => ∀ p, h p = none → Q (.ref p) (dup h p o)
theorem de_dnewK : DE X (.Dict [] [] pos) (wDNew (.dK [])) :=
  ⟨fun W ck => pe_dnewK.imp fun σ H Q ⟨env, h, Qn, Qx, rs, rw_, q, kq, kx⟩ p hp => kq _ _ _ _ (Pe.new hp) (rw_.new hp (show RO X.K _ p (.dK []) from ⟨[], upd_same, rfl, .nil⟩)) (.ref p) (q p (rw_.fresh hp))⟩
theorem de_dnewT : DE X (.Dict [] [] pos) (wDNew (.dT [])) :=
  ⟨fun W ck => pe_dnewT.imp fun σ H Q ⟨env, h, Qn, Qx, rs, rw_, q, kq, kx⟩ p hp => kq _ _ _ _ (Pe.new hp) (rw_.new hp (show RO X.K _ p (.dT []) from ⟨[], upd_same, rfl, .nil⟩)) (.ref p) (q p (rw_.fresh hp))⟩
/-- a display -/
def wPs : List (WE × WE) → Ev → DH → (List (D × D) → DH → Prop) → QX → Prop
  | [], _, h, Q, _ => Q [] h
  | (wk, wv) :: r, env, h, Q, Qx => wk env h (fun x h1 => wv env h1 (fun y h2 => wPs r env h2 (fun ps h3 => Q ((x, y) :: ps) h3) Qx) Qx) Qx
structure DPs (X : Cx) (pos : Pos) (keys : List (Option Expr)) (values : List Expr) (ws : List (WE × WE)) : Prop where
  ok : ∀ W, Cok X W → PPs X pos keys values (ws.map fun p => (tE X.K W p.1, tE X.K W p.2))
theorem dps_nil : DPs X pos [] [] [] := ⟨fun W ck => pps_nil⟩
theorem dps_cons {ks : List (Option Expr)} {vs : List Expr} {ws : List (WE × WE)} (hk : DE X i wi) (hv : DE X e we) (hr : DPs X pos ks vs ws) : DPs X pos (some i :: ks) (e :: vs) ((wi, we) :: ws) :=
  ⟨fun W ck => pps_cons (hk.ok W ck) (hv.ok W ck) (hr.ok W ck)⟩
inductive RPs (K : PySem.W.Frag) (H : Hp) : List (D × D) → List (V × V) → Prop
  | nil : RPs K H [] []
  | cons {x y : D} {u v : V} {ds : List (D × D)} {vs : List (V × V)} (r1 : RD K H x u) (r2 : RD K H y v) (t : RPs K H ds vs) : RPs K H ((x, y) :: ds) ((u, v) :: vs)
theorem tPairs_ok {K : PySem.W.Frag} {W : WX} {σ : L2.St} : ∀ (ws : List (WE × WE)) {env : Ev} {h : DH} {H : Hp} {Qn : List (D × D) → DH → Prop} {Qx : QX} {Q : List (V × V) → Hp → Prop}, RS K H env σ → RW K h H → wPs ws env h Qn Qx →
    (∀ ds h' vs H', Pe H H' → RW K h' H' → RPs K H' ds vs → Qn ds h' → Q vs H') → KX K H Qx W σ → tPairs (ws.map fun p => (tE K W p.1, tE K W p.2)) σ H Q
  | [], env, h, H, Qn, Qx, Q, rs, rw_, q, kq, kx => kq [] h [] H (.refl H) rw_ .nil q
  | (wk, wv) :: r, env, h, H, Qn, Qx, Q, rs, rw_, q, kq, kx => ⟨env, h, _, Qx, rs, rw_, q, fun x h1 u H1 p1 r1 rx q1 => ⟨env, h1, _, Qx, rs.mono p1, r1, q1, fun y h2 v H2 p2 r2 ry q2 =>
      tPairs_ok r (rs.mono (p1.trans p2)) r2 q2 (fun ds h3 vs H3 p3 r3 rds q3 => kq _ _ _ _ (p1.trans (p2.trans p3)) r3 (.cons ((rx.mono p2).mono p3) (ry.mono p3) rds) q3) (kx.mono (p1.trans p2)), kx.mono p1⟩, kx⟩
def pairsK : List (D × D) → Option (List (Key × D))
  | [] => some []
  | (x, y) :: r => match keyD x, pairsK r with
    | some k, some ks => some ((k, y) :: ks)
    | _, _ => none
theorem pairsK_ok {K : PySem.W.Frag} {H : Hp} : ∀ {ds : List (D × D)} {vs : List (V × V)} {kvs : List (Key × D)}, RPs K H ds vs → pairsK ds = some kvs → ∃ us : List (Key × V), vs = us.map (fun kv => (kV kv.1, kv.2)) ∧ us.map (·.1) = kvs.map (·.1) ∧ RDs K H (kvs.map (·.2)) (us.map (·.2))
  | _, _, _, .nil, e => by cases e; exact ⟨[], rfl, rfl, .nil⟩
  | (x, y) :: ds, (u, v) :: vs, kvs, .cons r1 r2 t, e => by
    rw [pairsK] at e
    split at e
    · rename_i k ks e1 e2
      cases e
      obtain ⟨us, h1, h2, h3⟩ := pairsK_ok t e2
      exact ⟨(k, v) :: us, by rw [h1, keyD_ok r1 e1]; rfl, by rw [List.map_cons, List.map_cons, h2], .cons r2 h3⟩
    · cases e
theorem pairsK_len : ∀ {ds : List (D × D)} {kvs : List (Key × D)}, pairsK ds = some kvs → ds.length = kvs.length
  | [], _, e => by cases e; rfl
  | (x, y) :: ds, kvs, e => by
    rw [pairsK] at e
    split at e
    · rename_i k ks e1 e2
      cases e
      rw [List.length_cons, List.length_cons, pairsK_len e2]
    · cases e
def mergeD (kvs more : List (Key × D)) : List (Key × D) := more.foldl (fun acc kv => putK2 acc kv.1 kv.2) kvs
theorem merge_rel {K : PySem.W.Frag} {H : Hp} : ∀ {ms : List (Key × D)} {us : List (Key × V)} {kvs : List (Key × D)} {vs : List (Key × V)}, us.map (·.1) = ms.map (·.1) → RDs K H (ms.map (·.2)) (us.map (·.2)) → vs.map (·.1) = kvs.map (·.1) → RDs K H (kvs.map (·.2)) (vs.map (·.2)) →
    (mergeK vs us).map (·.1) = (mergeD kvs ms).map (·.1) ∧ RDs K H ((mergeD kvs ms).map (·.2)) ((mergeK vs us).map (·.2))
  | [], [], _, _, _, _, e, r => ⟨e, r⟩
  | [], _ :: _, _, _, e, _, _, _ => by simp at e
  | _ :: _, [], _, _, e, _, _, _ => by simp at e
  | (a, d) :: ms, (b, v) :: us, kvs, vs, e, r, e2, r2 => by
    rw [List.map_cons, List.map_cons, List.cons.injEq] at e
    have e1 : b = a := e.1
    subst e1
    rw [List.map_cons, List.map_cons] at r
    cases r with
    | cons r t =>
      obtain ⟨i1, i2⟩ := put2_rel (k := b) r e2 r2
      show (mergeK (putK vs b v) us).map (·.1) = (mergeD (putK2 kvs b d) ms).map (·.1) ∧ RDs K H ((mergeD (putK2 kvs b d) ms).map (·.2)) ((mergeK (putK vs b v) us).map (·.2))
      exact merge_rel e.2 t i1 i2
def wDisp (ws : List (WE × WE)) : WE := fun env h Q Qx => ∀ p, h p = none → wPs ws env (dup h p (.dK [])) (fun ds h2 => h2 p = some (.dK []) ∧ ds.length ≤ 15 ∧ ∃ kvs, pairsK ds = some kvs ∧ Q (.ref p) (dup h2 p (.dK (mergeD [] kvs)))) Qx
theorem de_disp {keys : List (Option Expr)} {values : List Expr} {ws : List (WE × WE)} (hp : DPs X pos keys values ws) (hall : keys.all (·.isSome) = true := by rfl) (hl : keys.length = values.length := by rfl) (h0 : keys ≠ [] := by exact fun z => by cases z) (h15 : keys.length ≤ 15 := by decide) :
    DE X (.Dict keys values pos) (wDisp ws) :=
  ⟨fun W ck => (pe_disp (hp.ok W ck) hall hl h0 h15).imp fun σ H Q ⟨env, h, Qn, Qx, rs, rw_, q, kq, kx⟩ p hp => by
    have pn : Pe H (upd H p (.dK [])) := Pe.new hp
    refine tPairs_ok ws (rs.mono pn) (rw_.new hp (show RO X.K _ p (.dK []) from ⟨[], upd_same, rfl, .nil⟩)) (q p (rw_.fresh hp)) (fun ds h2 vs H2 p2 r2 rds ⟨e2, lz, kvs, ek, q2⟩ => ?_) (kx.mono pn)
    obtain ⟨us, rfl, n2, ru⟩ := pairsK_ok rds ek
    obtain ⟨vs0, hv0, n0, r0⟩ := r2 _ _ e2
    have en : vs0 = [] := by cases vs0 with | nil => rfl | cons a b => simp at n0
    subst en
    have wr : Wr (H2 p) := by rw [hv0]; exact True.intro
    have pw : Pe H2 (upd H2 p (.dK (mergeK [] us))) := Pe.wr wr
    obtain ⟨m1, m2⟩ := merge_rel (vs := []) (kvs := []) n2 ru rfl .nil
    have ll : us.length ≤ 15 := by
      have a1 := len_rel n2
      have a2 := pairsK_len ek
      omega
    exact ⟨hv0, us, rfl, ll, kq _ _ _ _ (pn.trans (p2.trans pw)) (r2.set wr (show RO X.K _ p (.dK (mergeD [] kvs)) from ⟨_, upd_same, m1, m2.mono pw⟩)) (.ref p) q2⟩⟩
end
/-! ### texts: sign by sign, the first place, a module's -/
section
variable {X : Cx} {e tg : Expr} {we : WE} {x s : Str} {pos : Pos}
def sgs (s : Str) : List D := s.cps.toList.map fun c => D.str (sg c)
def wSigns (we : WE) : WI := fun env h Q Qx => we env h (fun d h1 => StrK d fun a => Q ⟨sgs a, fun _ => True⟩ h1) Qx
theorem di_signs (he : DE X e we) : DI X tg e (wSigns we) := ⟨fun W ck => (pi_str (he.ok W ck)).imp fun σ H R ⟨env, h, Qn, Qx, rs, rw_, q, kr, kx⟩ =>
  ⟨env, h, _, Qx, rs, rw_, q, fun d h1 v H1 p1 r1 rd q0 => by
    obtain ⟨a, rfl, q1⟩ := q0.get
    cases rd
    refine ⟨a, rfl, kr _ _ _ _ p1 r1 ?_ q1⟩
    intro i H h p rw_ _
    have hz : (sgs a).length = a.cps.size := by unfold sgs; rw [List.length_map, Array.length_toList]
    refine ⟨fun y hy => ?_, fun hl => by have hl := Nat.le_of_eq hl.symm; rw [hz] at hl; exact hl⟩
    have hi : i < a.cps.size := by rw [← hz]; exact (List.getElem?_eq_some_iff.mp hy).1
    refine ⟨hi, fun v H' ⟨e1, c, e2, e3⟩ => ?_⟩
    subst e1 e3
    unfold sgs at hy
    rw [List.getElem?_map, Array.getElem?_toList, e2] at hy
    cases hy
    exact ⟨.refl _, rw_, .str _⟩, kx⟩⟩
theorem de_gstr (hm : ∃ t, X.mg x = some (.str s t)) (hg : Gl X x := by rfl) (hd : (x == ("__debug__" : Str)) = false := by decide) : DE X (.Name x pos) (wC (.str s)) := by
  obtain ⟨t, hm⟩ := hm
  exact de_const (v := .str s) (pe_glob hg hm ⟨t, rfl⟩ hd) fun _ => .str s
def gIndexS : GS := fun a xs h Q => match xs with
  | [.str b] => ∃ k : Nat, findN a b 0 = (k : Int) ∧ Q (.int (k : Nat)) h
  | _ => False
theorem s_index : MtS X "str.index" gIndexS := by
  refine ⟨_, mt_sindex, ?_⟩
  intro a xs h Qn H vs Q rds rw_ q kq
  unfold gIndexS at q
  split at q
  · rename_i b
    obtain ⟨k, ek, q⟩ := q
    cases rds with
    | cons rd t =>
      cases t; cases rd
      unfold findN at ek
      split at ek
      · rename_i i r e
        have e2 : i = k := by omega
        subst e2
        exact ⟨_, _, _, _, rfl, rfl, e, kq.here rw_ (.int _) q⟩
      · omega
  · exact q.elim
end
section
variable {env : Ev} {h : DH} {Q : QD} {Qx : QX} {E : En} {wo wi we wf : WE} {QI : Src → DH → Prop} {ws : List (WE × WE)} {o : DO} {neg : Bool} {a b : Str} {QP : List (D × D) → DH → Prop} {wk wv : WE}
theorem zEDGet : wDGet wo wi env h Q Qx = wo env h (fun d h1 => wi env h1 (fun y h2 => dGet h2 d y fun r => match r with | some v => Q v h2 | none => False) Qx) Qx := rfl
theorem zEGet1 : wGet1 wo wi env h Q Qx = wo env h (fun d h1 => isD h1 d ∧ wi env h1 (fun y h2 => dGet h2 d y fun r => Q (r.getD .non) h2) Qx) Qx := rfl
theorem zEGet2 : wGet2 wo wi wf env h Q Qx = wo env h (fun d h1 => isD h1 d ∧ wi env h1 (fun y h2 => wf env h2 (fun x h3 => dGet h3 d y fun r => Q (r.getD x) h3) Qx) Qx) Qx := rfl
theorem zEDIn : wDIn neg wi wo env h Q Qx = wi env h (fun y h1 => wo env h1 (fun d h2 => dGet h2 d y fun r => Q (.bl (if neg = true then !r.isSome else r.isSome)) h2) Qx) Qx := rfl
theorem zEDPut : wDPut wo wi we E env h = we env h (fun x h1 => wo env h1 (fun d h2 => wi env h2 (fun y h3 => dPut h3 d y x fun h4 => E.nx env h4) (fun x h1 => E.rx x env h1)) (fun x h1 => E.rx x env h1)) (fun x h1 => E.rx x env h1) := rfl
theorem zESigns : wSigns we env h QI Qx = we env h (fun d h1 => StrK d fun a => QI ⟨sgs a, fun _ => True⟩ h1) Qx := rfl
theorem zGIndexS : gIndexS a [.str b] h Q = ∃ k : Nat, findN a b 0 = (k : Int) ∧ Q (.int (k : Nat)) h := rfl
theorem zEDisp : wDisp ws env h Q Qx = ∀ p, h p = none → wPs ws env (dup h p (.dK [])) (fun ds h2 => h2 p = some (.dK []) ∧ ds.length ≤ 15 ∧ ∃ kvs, pairsK ds = some kvs ∧ Q (.ref p) (dup h2 p (.dK (mergeD [] kvs)))) Qx := rfl
theorem zPsN : wPs [] env h QP Qx = QP [] h := rfl
theorem zPsC : wPs ((wk, wv) :: ws) env h QP Qx = wk env h (fun x h1 => wv env h1 (fun y h2 => wPs ws env h2 (fun ps h3 => QP ((x, y) :: ps) h3) Qx) Qx) Qx := rfl
theorem zEDNew : wDNew o env h Q Qx = ∀ p, h p = none → Q (.ref p) (dup h p o) := rfl
theorem dGet_K {p : Addr} {kvs : List (Key × D)} {y : D} {q : Key} {k : Option D → Prop} (e : h p = some (.dK kvs)) (ey : keyD y = some q) (z : k (valD kvs q)) : dGet h (.ref p) y k := by
  unfold dGet; dsimp only; rw [e]; dsimp only; rw [ey]; exact z
theorem dPut_K {p : Addr} {kvs : List (Key × D)} {y v : D} {q : Key} {k : DH → Prop} (e : h p = some (.dK kvs)) (ey : keyD y = some q) (hl : kvs.length < sizeLine) (z : k (dup h p (.dK (putK2 kvs q v)))) : dPut h (.ref p) y v k := by
  unfold dPut; dsimp only; rw [e]; dsimp only; rw [ey]; exact ⟨hl, z⟩
theorem dGet_lK {p : Addr} {od : Obj} {us : List (Key × V)} {kvs : List (Key × D)} {y : D} {q : Key} {k : Option D → Prop} (e : h p = some (.lkK od us kvs)) (ey : keyD y = some q) (z : k (valD kvs q)) : dGet h (.ref p) y k := by
  unfold dGet; dsimp only; rw [e]; dsimp only; rw [ey]; exact z
theorem dGet_T {p : Addr} {kvs : List (List Key × D)} {y : D} {q : List Key} {k : Option D → Prop} (e : h p = some (.dT kvs)) (ey : keyT y = some q) (z : k (valD kvs q)) : dGet h (.ref p) y k := by
  unfold dGet; dsimp only; rw [e]; dsimp only; rw [ey]; exact z
theorem dGet_lT {p : Addr} {od : Obj} {us : List (List Key × V)} {kvs : List (List Key × D)} {y : D} {q : List Key} {k : Option D → Prop} (e : h p = some (.lkT od us kvs)) (ey : keyT y = some q) (z : k (valD kvs q)) : dGet h (.ref p) y k := by
  unfold dGet; dsimp only; rw [e]; dsimp only; rw [ey]; exact z
theorem dPut_T {p : Addr} {kvs : List (List Key × D)} {y v : D} {q : List Key} {k : DH → Prop} (e : h p = some (.dT kvs)) (ey : keyT y = some q) (hl : kvs.length < sizeLine) (z : k (dup h p (.dT (putK2 kvs q v)))) : dPut h (.ref p) y v k := by
  unfold dPut; dsimp only; rw [e]; dsimp only; rw [ey]; exact ⟨hl, z⟩
theorem isD_K {p : Addr} {kvs : List (Key × D)} (e : h p = some (.dK kvs)) : isD h (.ref p) := by unfold isD; dsimp only; rw [e]; trivial
theorem isD_T {p : Addr} {kvs : List (List Key × D)} (e : h p = some (.dT kvs)) : isD h (.ref p) := by unfold isD; dsimp only; rw [e]; trivial
end
end DL
namespace DL
open PySem PySem.Spec PyProof.Rows L2
/-! ### what stands in the written part: tuples of texts -/
section
variable {K : PySem.W.Frag}
/-- d's value wherever the program stands -/
def StD (K : PySem.W.Frag) (d : D) (u : Value) : Prop := ∃ v : V, RelV v u ∧ ∀ H, RD K H d v
inductive StDs (K : PySem.W.Frag) : List D → List Value → Prop
  | nil : StDs K [] []
  | cons {d : D} {u : Value} {ds : List D} {us : List Value} (r : StD K d u) (t : StDs K ds us) : StDs K (d :: ds) (u :: us)
theorem stD_non : StD K .non .none := ⟨.non, rfl, fun _ => .non⟩
theorem stD_str {x : Str} {t : Tok} : StD K (.str x) (.str x t) := ⟨.str x, ⟨t, rfl⟩, fun _ => .str x⟩
theorem stD_int {i : Int} {t : Tok} : StD K (.int i) (.int i t) := ⟨.int i, ⟨t, rfl⟩, fun _ => .int i⟩
theorem StDs.out : ∀ {ds : List D} {us : List Value}, StDs K ds us → ∃ vs : List V, Vals vs us ∧ ∀ H, RDs K H ds vs
  | _, _, .nil => ⟨[], .nil, fun _ => .nil⟩
  | _, _, .cons ⟨v, r, q⟩ t => by
    obtain ⟨vs, r2, q2⟩ := t.out
    exact ⟨v :: vs, .cons r r2, fun H => .cons (q H) (q2 H)⟩
theorem stD_tup {a : Addr} {us : List Value} {n : Nat} {sl : Array (Option Value)} {ds : List D} (e : K.lookup a = some ⟨.type "tuple", none, .seq us.toArray n, sl⟩) (r : StDs K ds us) (hz : Nat.ble us.length 1000 = true := by rfl) : StD K (.tup ds) (.ref a) := by
  obtain ⟨vs, r1, r2⟩ := r.out
  have hz : us.toArray.size ≤ sizeLine := by
    rw [List.size_toArray]
    exact Nat.le_trans (Nat.le_of_ble_eq_true hz) (by decide)
  exact ⟨.ref a, rfl, fun H => .tup (.inr ⟨_, us.toArray, n, e, rfl, rfl, rfl, hz, r1⟩) (r2 H)⟩
end
section
variable {X : Cx} {e : Expr} {we : WE} {x : Str} {pos pos' p p2 : Pos} {d : D}
theorem de_gst (hm : ∃ u, X.mg x = some u ∧ StD X.K d u) (hg : Gl X x := by rfl) (hd : (x == ("__debug__" : Str)) = false := by decide) : DE X (.Name x pos) (wC d) := by
  obtain ⟨u, hm, v, r, q⟩ := hm
  exact de_const (v := v) (pe_glob hg hm r hd) q
/-! ### texts: text * int, x += text -/
def gTimesS : G2 := fun x y h Q => match x, y with
  | .str s, .int k => (0 ≤ k ∧ k ≤ 1000 ∧ s.length ≤ 1000) ∧ Q (.str (Txt.mul s k)) h
  | _, _ => False
theorem mulOk_small {s : Str} {k : Int} (h0 : 0 ≤ k) (h1 : k ≤ 1000) (hz : s.length ≤ 1000) : MulOk s k := by
  refine ⟨?_, fun hk _ hb => ?_, fun hk _ => ?_⟩
  · rw [Bool.or_eq_false_iff, decide_eq_false_iff_not, decide_eq_false_iff_not]; constructor <;> omega
  · have h2 : (2 ^ 63 - 1 : Int) / 1000 ≤ (2 ^ 63 - 1) / k := by
      apply Int.le_ediv_of_mul_le (by omega)
      have h3 : (2 ^ 63 - 1 : Int) / 1000 * k ≤ (2 ^ 63 - 1 : Int) / 1000 * 1000 := Int.mul_le_mul_of_nonneg_left h1 (by decide)
      have h4 : (2 ^ 63 - 1 : Int) / 1000 * 1000 ≤ 2 ^ 63 - 1 := by decide
      omega
    have h5 : (2 ^ 63 - 1 : Int) / 1000 = 9223372036854775 := by decide
    omega
  · unfold PySem.Builtin.Str.tooLong
    rw [decide_eq_false_iff_not]
    have h2 : s.length * k.toNat ≤ 1000 * 1000 := Nat.mul_le_mul hz (by omega)
    have h3 : sizeLine = 16777216 := by decide
    omega
theorem op_mulS : OpR X (binaryOp .Mult) (fun x y H Q => ∃ s k, x = .str s ∧ y = .int k ∧ MulOk s k ∧ Q (.str (Txt.mul s k)) H) := by
  intro pins s σ H x y v u Q I rx ry h
  obtain ⟨i, j, rfl, rfl, hz, q⟩ := h
  obtain ⟨t, rfl⟩ := rx
  obtain ⟨t', rfl⟩ := ry
  exact SB.mul hz fun t' tk => ⟨.str (Txt.mul i j), H, I.tok _, ⟨_, rfl⟩, q⟩
theorem o_timesS {X : Cx} : Op2 X (binaryOp .Mult) gTimesS := by
  refine ⟨_, op_mulS, ?_⟩
  intro x y h Qn H vx vy Q rx ry rw_ q kq
  unfold gTimesS at q
  split at q
  · cases rx; cases ry
    exact ⟨_, _, rfl, rfl, mulOk_small q.1.1 q.1.2.1 q.1.2.2, kq.here rw_ (.str _) q.2⟩
  · exact q.elim
def wAugTx (i : Nat) (we : WE) : WS := fun E env h => match env[i]? with
  | some (some (.str a)) => we env h (fun d h1 => match d with
    | .str b => a.length + b.length ≤ sizeLine ∧ E.nx (env.set i (some (.str (a ++ b)))) h1
    | _ => False) (fun x h1 => E.rx x env h1)
  | _ => False
theorem ip_addS : PIp X .Add (fun x y H Q => ∃ i j, x = .str i ∧ y = .str j ∧ i.length + j.length ≤ sizeLine ∧ Q (.str (i ++ j)) H) := fun pins s σ H x y u v Q I rx ry h => iop_add_str pins s σ H x y u v Q I rx ry h
theorem ds_addTx {i : Nat} (hN : X.N.Nodup) (he : DE X e we) (hi : X.N[i]? = some x := by rfl) (hx : Loc X.env.scope x := by first | exact Or.inl rfl | exact Or.inr rfl) (hf : X.fn x = true ∨ X.env.scope.names.lookup x = some .local := by first | exact .inl rfl | exact .inr rfl) :
    DS X (.AugAssign (.Name x pos') .Add e pos) (wAugTx i we) := ⟨fun W ck => (ps_aug hN hi hx (he.ok W ck) ip_addS hf).imp fun D σ H ⟨E, env, h, rs, rw_, q, ks⟩ => by
  unfold wAugTx at q
  split at q
  · rename_i a e1
    obtain ⟨v, e2, rv⟩ := rs.get e1
    cases rv
    refine ⟨_, e2, env, h, _, _, rs, rw_, q, fun d h1 v H1 p1 r1 rd q1 => ?_, ks.kx rs⟩
    cases d <;> try exact q1.elim
    cases rd
    exact ⟨_, _, rfl, rfl, q1.1, ks.nx _ h1 _ H1 p1 ((rs.mono p1).set i (.str _)) r1 q1.2⟩
  · exact q.elim⟩
/-! ### isinstance of an own class -/
structure InsD (K : PySem.W.Frag) (C : Addr) : Prop where
  ha : PySem.W.findIn K (.ref C) "__class__" = some (some (.builtin "object.__class__"))
  hn : PySem.W.specialIn K (.builtin "object.__class__") "__get__" = some (some (.builtin "getset_descriptor.__get__"))
  htk : PySem.W.takesIn K (.builtin "object.__class__") = some true
  hm : PySem.W.mroIn K C (.type "object") = some true
theorem kit_self {K : PySem.W.Frag} {t : Value} : PySem.W.kitOne K t t = some true := by
  unfold PySem.W.kitOne
  rw [if_pos (beq_self_eq_true _)]
def wIsC (C : Addr) (w : WE) : WE := fun env h Q Qx => w env h (fun d h1 => ∃ a fs, d = .ref a ∧ h1 a = some (.ins C fs) ∧ Q (.bl true) h1) Qx
theorem de_isC {C : Addr} {c : Str} (i : InsD X.K C) (cl : Cls X.K C) (hg : Gl X "isinstance") (hm : X.mg "isinstance" = none) (hgc : Gl X c) (hmc : X.mg c = some (.ref C)) (ha : DE X e we) (hdc : (c == ("__debug__" : Str)) = false := by decide)
    (h1 : starEach [e, .Name c p2] X.env = (false, eval e X.env) :: starEach [.Name c p2] X.env := by rfl) (h2 : starEach [.Name c p2] X.env = (false, eval (.Name c p2) X.env) :: starEach [] X.env := by rfl)
    (hpl : (backTo pos (starEach [.Name c p2] X.env)).any (·.1) = false := by rfl) : DE X (.Call (.Name "isinstance" p) [e, .Name c p2] [] pos) (wIsC C we) :=
  ⟨fun W ck => (pe_callB (C8.call_isC ⟨cl, i.ha, i.hn, i.htk, i.hm, kit_self⟩) hg hm (by decide +kernel) (pa_cons (ha.ok W ck) (pa_cons (C8.pe_gc (v := .ref C) hgc ⟨_, hmc, rfl⟩ hdc) pa_nil h2) h1) (by decide) (by decide) h1 hpl).imp fun σ H Q ⟨env, h, Qn, Qx, rs, rw_, q, kq, kx⟩ =>
    ⟨env, h, _, Qx, rs, rw_, q, fun d h1 v H1 p1 r1 rd ⟨a, fs, ed, ea, q1⟩ => by
      subst ed
      cases rd
      obtain ⟨dx, vs, hv, _, _⟩ := r1 _ _ ea
      exact ⟨a, dx, vs, rfl, hv, kq _ h1 _ _ p1 r1 (.bl _) q1⟩, kx⟩⟩
end
section
variable {env : Ev} {h : DH} {Q : QD} {Qx : QX} {E : En} {we : WE} {C : Addr} {i : Nat} {s : Str} {k : Int}
theorem zGTimesS : gTimesS (.str s) (.int k) h Q = ((0 ≤ k ∧ k ≤ 1000 ∧ s.length ≤ 1000) ∧ Q (.str (Txt.mul s k)) h) := rfl
theorem zEIsC : wIsC C we env h Q Qx = we env h (fun d h1 => ∃ a fs, d = .ref a ∧ h1 a = some (.ins C fs) ∧ Q (.bl true) h1) Qx := rfl
theorem zEAugTx : wAugTx i we E env h = wVar i env h (fun d _ => match d with
  | .str a => we env h (fun d h1 => match d with
    | .str b => a.length + b.length ≤ sizeLine ∧ E.nx (env.set i (some (.str (a ++ b)))) h1
    | _ => False) (fun x h1 => E.rx x env h1)
  | _ => False) (fun _ _ => False) := by
  unfold wAugTx wVar
  cases env[i]? with
  | none => rfl
  | some o =>
    cases o with
    | none => rfl
    | some d => cases d <;> rfl
end
end DL
namespace DL
open PySem PySem.Spec PyProof.Rows L2
/-! ### comprehensions over triples: the target three names -/
section
variable {X : Cx} {elt iter c : Expr} {ifs : List Expr} {scope : Scope} {x y z u : Str} {pos py pp pz pu pt spos : Pos} {kk : Nat} {wi : WI} {wt : WT} {we : WE} {i j l : Nat}
abbrev set3 (env : Ev) (i j l : Nat) (x y z : D) : Ev := ((env.set i (some x)).set j (some y)).set l (some z)
def lcT (p : Addr) (gd : DH → Prop) (i j l : Nat) (wt : WT) (we : WE) (env : Ev) (Q : DH → Prop) : List D → DH → Prop
  | [], h => Q h
  | d :: xs, h => ∃ x y z, unO d = .tup [x, y, z] ∧ wt (set3 env i j l x y z) h (fun b h2 => if b = true then we (set3 env i j l x y z) h2 (fun y h3 => lstQ h3 (.ref p) fun _ acc => acc.length < sizeLine ∧ gd (dup h3 p (.lst (acc ++ [y]))) ∧ lcT p gd i j l wt we env Q xs (dup h3 p (.lst (acc ++ [y])))) (fun _ _ => False)
      else gd h2 ∧ lcT p gd i j l wt we env Q xs h2) (fun _ _ => False)
def LcT (i j l : Nat) (wt : WT) (we : WE) (env : Ev) (Q : QD) (s : Src) (h1 : DH) : Prop := ∀ p, h1 p = none → s.gd (dup h1 p (.lst [])) ∧ lcT p s.gd i j l wt we env (fun h2 => Q (.ref p) h2) s.xs (dup h1 p (.lst []))
def wLcT (wi : WI) (i j l : Nat) (wt : WT) (we : WE) : WE := fun env h Q Qx => wi env h (fun s h1 => LcT i j l wt we env Q s h1) Qx
theorem wipe3 {σ : L2.St} (h1 : i ≠ j) (h2 : i ≠ l) (h3 : j ≠ l) (v u w : V) : (((wipe σ [i, j, l]).set i (some v)).set j (some u)).set l (some w) = ((σ.set i (some v)).set j (some u)).set l (some w) := by
  show (((((σ.set l none).set j none).set i none).set i (some v)).set j (some u)).set l (some w) = _
  rw [List.set_set, List.set_comm _ _ (Ne.symm h1), List.set_set, List.set_comm _ _ h3, List.set_comm _ _ h2, List.set_set]
  rw [List.set_comm _ _ h1, List.set_comm _ _ h1, List.set_comm _ _ h2, List.set_comm _ _ h3]
theorem wipe3' {σ : L2.St} (h1 : i ≠ j) (h2 : i ≠ l) (h3 : j ≠ l) (v u w : V) : wipe (((σ.set i (some v)).set j (some u)).set l (some w)) [i, j, l] = wipe σ [i, j, l] := by
  show ((((((σ.set i (some v)).set j (some u)).set l (some w)).set l none).set j none).set i none) = ((σ.set l none).set j none).set i none
  rw [List.set_set, List.set_comm _ _ h3, List.set_set, List.set_comm _ _ h2, List.set_comm _ _ h1, List.set_set]
theorem lcT_imp {K : PySem.W.Frag} {W : WX} {σ : L2.St} {H : Hp} {Q : VK} (hij : i ≠ j) (hil : i ≠ l) (hjl : j ≠ l) (h : tE K W (wLcT wi i j l wt we) σ H Q) :
    tLc (tI K W wi) (gTup K 3 (gCons (gName i) (gCons (gName j) (gCons (gName l) gNil)))) (tT K (fun _ _ _ _ => False) wt) (tE K (fun _ _ _ _ => False) we) [i, j, l] σ H Q := by
  obtain ⟨env, h, Qn, Qx, rs, rw_, q, kq, kx⟩ := h
  refine ⟨env, h, _, Qx, rs, rw_, q, fun s h1 J H1 p1 r1 it q1 => fun p hp => ?_, kx⟩
  obtain ⟨gd1, q2⟩ := q1 p (r1.fresh hp)
  have pn : Pe H1 (upd H1 p (.lst [])) := Pe.new hp
  refine ⟨fun k m H' => m = s.xs.length - k ∧ k ≤ s.xs.length ∧ ∃ h', Pe (upd H1 p (.lst [])) H' ∧ RW K h' H' ∧ s.gd h' ∧ lcT p s.gd i j l wt we env (fun h2 => Qn (.ref p) h2) (s.xs.drop k) h',
    ⟨s.xs.length, by simp, Nat.zero_le _, _, .refl _, r1.new hp (show RO K _ p (.lst []) from ⟨[], upd_same, .nil⟩), gd1, by simpa using q2⟩, ?_⟩
  rintro k m H2 ⟨rfl, hle, h2, p2, r2, gd2, q3⟩
  have pp := pn.trans p2
  by_cases hlt : k < s.xs.length
  · have hx : s.xs[k]? = some s.xs[k] := List.getElem?_eq_getElem hlt
    obtain ⟨go, yl⟩ := (it k H2 h2 pp r2 gd2).1 _ hx
    rw [List.drop_eq_getElem_cons hlt] at q3
    obtain ⟨dx, dy, dz, ed, q3⟩ := q3
    refine .inr ⟨go, fun H' => ∃ h', Pe (upd H1 p (.lst [])) H' ∧ RW K h' H' ∧ s.gd h' ∧ lcT p s.gd i j l wt we env (fun h2 => Qn (.ref p) h2) (s.xs.drop (k + 1)) h', fun H' z => ⟨s.xs.length - (k + 1), by omega, rfl, hlt, z⟩, fun v H3 y => ?_⟩
    obtain ⟨p3, r3, rd3⟩ := yl v H3 y
    obtain ⟨a, vs, rfl, ta, ra⟩ := unO_inv ed rd3
    obtain ⟨v1, v2, v3, rfl, rd1, rd2, rd4⟩ : ∃ v1 v2 v3, vs = [v1, v2, v3] ∧ RD K H3 dx v1 ∧ RD K H3 dy v2 ∧ RD K H3 dz v3 := by
      cases ra with
      | cons r1 t =>
        cases t with
        | cons r2 t =>
          cases t with
          | cons r3 t => cases t; exact ⟨_, _, _, rfl, r1, r2, r3⟩
    refine ⟨a, [v1, v2, v3], rfl, ta, rfl, v1, [v2, v3], rfl, v2, [v3], rfl, v3, [], rfl, rfl, ?_⟩
    have rs3 : RS K H3 (set3 env i j l dx dy dz) ((((wipe σ [i, j, l]).set i (some v1)).set j (some v2)).set l (some v3)) := by
      rw [wipe3 hij hil hjl]; exact (((rs.mono (p1.trans (pp.trans p3))).set i rd1).set j rd2).set l rd4
    refine ⟨by rw [wipe3 hij hil hjl, wipe3' hij hil hjl], _, h2, _, _, rs3, r3, q3, fun b h4 H4 p4 r4 q4 => ?_, noX⟩
    cases b with
    | false =>
      rw [if_neg Bool.false_ne_true] at q4 ⊢
      exact ⟨h4, p2.trans (p3.trans p4), r4, q4.1, q4.2⟩
    | true =>
      rw [if_pos rfl] at q4 ⊢
      refine ⟨_, h4, _, _, rs3.mono p4, r4, q4, fun d h5 u H5 p5 r5 rd5 q5 => ?_, noX⟩
      obtain ⟨a, acc, ea, e5, hz, g5, q6⟩ := q5.get
      cases ea
      obtain ⟨vs, hv, rr⟩ := r5 _ _ e5
      have w : Wr (H5 p) := by rw [hv]; exact True.intro
      have pw : Pe H5 (upd H5 p (.lst (vs ++ [u]))) := Pe.wr w
      exact ⟨vs, hv, by rw [← rr.length]; exact hz, _, p2.trans (p3.trans (p4.trans (p5.trans pw))), r5.set w (show RO K _ p (.lst (acc ++ [d])) from ⟨_, upd_same, (rr.append (.cons rd5 .nil)).mono pw⟩), g5, q6⟩
  · have e : k = s.xs.length := by omega
    subst e
    rw [List.drop_length] at q3
    exact .inl ⟨(it _ H2 h2 pp r2 gd2).2 rfl, kq (.ref p) h2 (.ref p) H2 (p1.trans pp) r2 (.ref p) q3⟩
theorem de_lcT (hN : X.N.Nodup) (hi : DI X (.Tuple [.Name x pp, .Name z pz, .Name u pu] kk pt) iter wi) (ok : BlkOk X.N X.env.scope scope [(x, i), (z, j), (u, l)]) (hij : i ≠ j) (hil : i ≠ l) (hjl : j ≠ l)
    (hg : ∀ (s : Shared) (H : Hp) (C : Addr) (cl : List (Str × Addr)) (fp : List Addr), PG (X.blk s H scope (compEnvC scope cl C X.env) fp) (.Tuple [.Name x pp, .Name z pz, .Name u pu] kk pt) (gTup X.K 3 (gCons (gName i) (gCons (gName j) (gCons (gName l) gNil)))))
    (ht : ∀ (s : Shared) (H : Hp) (C : Addr) (cl : List (Str × Addr)) (fp : List Addr), DTs (X.blk s H scope (compEnvC scope cl C X.env) fp) ifs wt)
    (he : ∀ (s : Shared) (H : Hp) (C : Addr) (cl : List (Str × Addr)) (fp : List Addr), DE (X.blk s H scope (compEnvC scope cl C X.env) fp) elt we)
    (hc : X.calm = true := by rfl) (hs : ∀ x, foldedSetIterable iter X.env x = pure x := by intro _; rfl) : DE X (.ListComp elt [⟨.Tuple [.Name x pp, .Name z pz, .Name u pu] kk pt, iter, ifs, 0⟩] scope pos) (wLcT wi i j l wt we) :=
  ⟨fun W ck => (pe_lc (own := [(x, i), (z, j), (u, l)]) hc hN (hi.ok W ck) ok hg (fun s H C cl fp => (ht s H C cl fp).ok _ cok_blk) (fun s H C cl fp => (he s H C cl fp).ok _ cok_blk) hs).imp fun σ H Q h => lcT_imp hij hil hjl h⟩
theorem zELcT {env : Ev} {h : DH} {Q : QD} {Qx : QX} : wLcT wi i j l wt we env h Q Qx = wi env h (fun s h1 => LcT i j l wt we env Q s h1) Qx := rfl
end
section
variable {i j l : Nat} {wt : WT} {we : WE} {env : Ev} {gd : DH → Prop}
theorem lcT_i {p : Addr} {Q : DH → Prop} {xs : List D} (J : Nat → DH → Prop) (hn : ∀ hh, J xs.length hh → Q hh)
    (hs : ∀ (k : Nat) (d : D) (hh : DH) (N : DH → Prop), xs[k]? = some d → J k hh → (∀ h', J (k + 1) h' → N h') →
      ∃ x y z, unO d = .tup [x, y, z] ∧ wt (set3 env i j l x y z) hh (fun b h2 => if b = true then we (set3 env i j l x y z) h2 (fun y h3 => lstQ h3 (.ref p) fun _ acc => acc.length < sizeLine ∧ gd (dup h3 p (.lst (acc ++ [y]))) ∧ N (dup h3 p (.lst (acc ++ [y])))) (fun _ _ => False) else gd h2 ∧ N h2) (fun _ _ => False)) :
    ∀ hh, J 0 hh → lcT p gd i j l wt we env Q xs hh := by
  have go : ∀ (ys : List D) (k : Nat), ys = xs.drop k → k ≤ xs.length → ∀ h, J k h → lcT p gd i j l wt we env Q ys h := by
    intro ys
    induction ys with
    | nil =>
      intro k e hk h hJ
      have : xs.length ≤ k := by simpa using e.symm
      have z : k = xs.length := by omega
      subst z
      exact hn h hJ
    | cons y ys ih =>
      intro k e hk h hJ
      have hlt : k < xs.length := by
        rcases Nat.lt_or_ge k xs.length with q | q
        · exact q
        · rw [List.drop_eq_nil_of_le q] at e; cases e
      have e1 := List.drop_eq_getElem_cons hlt
      rw [e1] at e
      obtain ⟨e2, e3⟩ := List.cons.inj e
      have hx : xs[k]? = some y := by rw [List.getElem?_eq_getElem hlt, e2]
      exact hs k y h (fun h' => lcT p gd i j l wt we env Q ys h') hx hJ fun h' hJ' => ih (k + 1) e3 hlt h' hJ'
  exact fun hh hJ => go xs 0 rfl (Nat.zero_le _) hh hJ
/-- no condition: f of each item -/
theorem lcT_go {Q : QD} {s : Src} {h1 : DH} (f : Nat → D) (hgd : ∀ h', Sub h1 h' → s.gd h') (hl : s.xs.length < sizeLine)
    (hs : ∀ (k : Nat) (d : D), s.xs[k]? = some d → ∃ x y z, unO d = .tup [x, y, z] ∧ ∀ (h' : DH) (R : QD), Sub h1 h' → (∀ h'', Sub h' h'' → R (f k) h'') → we (set3 env i j l x y z) h' R (fun _ _ => False))
    (q : ∀ p h', h1 p = none → Sub h1 h' → h' p = some (.lst ((List.range s.xs.length).map f)) → Q (.ref p) h') : LcT i j l wYes we env Q s h1 := by
  intro p fp
  refine ⟨hgd _ (Sub.new fp), lcT_i (fun j hh => Sub h1 hh ∧ hh p = some (.lst ((List.range j).map f)) ∧ j ≤ s.xs.length) ?_ ?_ _ ⟨Sub.new fp, dup_same, Nat.zero_le _⟩⟩
  · rintro hh ⟨sb, e, _⟩
    exact q p hh fp sb e
  · rintro j d hh N hx ⟨sb, e, hj⟩ hN
    have hj' : j < s.xs.length := (List.getElem?_eq_some_iff.mp hx).1
    obtain ⟨x, y, z, ed, hs⟩ := hs j d hx
    refine ⟨x, y, z, ed, ?_⟩
    unfold wYes
    dsimp only
    rw [if_pos rfl]
    refine hs hh _ sb fun h3 sb3 => ?_
    refine lstQ_i (sb3 _ _ e) ⟨?_, hgd _ (sub_dup0 (sb.trans sb3) fp), hN _ ⟨sub_dup0 (sb.trans sb3) fp, ?_, hj'⟩⟩
    · rw [List.length_map, List.length_range]; omega
    · rw [dup_same, List.range_succ, List.map_append]; rfl
end
end DL
namespace DL
open PySem PySem.Spec PyProof.Rows L2
/-! ### x *= e, ints; reversed(range(n)) -/
section
variable {X : Cx} {e : Expr} {we : WE} {x : Str} {pos pos' p p2 : Pos}
def wAugM (i : Nat) (we : WE) : WS := fun E env h => match env[i]? with
  | some (some (.int a)) => we env h (fun d h1 => match d with
    | .int b => IntMulOk a b ∧ E.nx (env.set i (some (.int (a * b)))) h1
    | _ => False) (fun x h1 => E.rx x env h1)
  | _ => False
theorem ip_mulI : PIp X .Mult (fun x y H Q => ∃ i j, x = .int i ∧ y = .int j ∧ IntMulOk i j ∧ Q (.int (i * j)) H) := by
  intro pins s σ H x y v u Q I r1 r2 h
  obtain ⟨i, j, e1, e2, hc, q⟩ := h
  subst e1; subst e2
  obtain ⟨t, rfl⟩ := r1
  obtain ⟨t', rfl⟩ := r2
  exact imul_int ⟨.int _, H, I.tok _, ⟨_, rfl⟩, q⟩ hc
theorem ds_mulM {i : Nat} (hN : X.N.Nodup) (he : DE X e we) (hi : X.N[i]? = some x := by rfl) (hx : Loc X.env.scope x := by first | exact Or.inl rfl | exact Or.inr rfl) (hf : X.fn x = true ∨ X.env.scope.names.lookup x = some .local := by first | exact .inl rfl | exact .inr rfl) :
    DS X (.AugAssign (.Name x pos') .Mult e pos) (wAugM i we) := ⟨fun W ck => (ps_aug hN hi hx (he.ok W ck) ip_mulI hf).imp fun D σ H ⟨E, env, h, rs, rw_, q, ks⟩ => by
  unfold wAugM at q
  split at q
  · rename_i a e1
    obtain ⟨v, e2, rv⟩ := rs.get e1
    cases rv
    refine ⟨_, e2, env, h, _, _, rs, rw_, q, fun d h1 v H1 p1 r1 rd q1 => ?_, ks.kx rs⟩
    cases d <;> try exact q1.elim
    cases rd
    exact ⟨_, _, rfl, rfl, q1.1, ks.nx _ h1 _ H1 p1 ((rs.mono p1).set i (.int _)) r1 q1.2⟩
  · exact q.elim⟩
theorem zEAugM {i : Nat} {E : En} {env : Ev} {h : DH} : wAugM i we E env h = wVar i env h (fun d _ => match d with
  | .int a => we env h (fun d h1 => match d with
    | .int b => IntMulOk a b ∧ E.nx (env.set i (some (.int (a * b)))) h1
    | _ => False) (fun x h1 => E.rx x env h1)
  | _ => False) (fun _ _ => False) := by
  unfold wAugM wVar
  cases env[i]? with
  | none => rfl
  | some o =>
    cases o with
    | none => rfl
    | some d => cases d <;> rfl
theorem imulL {i j : Int} (h0 : 0 ≤ i) (h1 : i < 18446744073709551616) : IntMulOk i j := CMul.ok (.inl ⟨by omega, by omega⟩)
theorem imulR {i j : Int} (h0 : 0 ≤ j) (h1 : j < 18446744073709551616) : IntMulOk i j := CMul.ok (.inr ⟨by omega, by omega⟩)
/-- two numbers below 2 ^ 100000 -/
theorem imulB {i j : Int} (hi : i.natAbs < 2 ^ 1000000) (hj : j.natAbs < 2 ^ 1000000) : IntMulOk i j := by
  have b : ∀ x : Int, x.natAbs < 2 ^ 1000000 → Builtin.Int.intBits x ≤ 2 ^ 20 := fun x h => by
    unfold Builtin.Int.intBits
    split
    · exact Nat.zero_le _
    · rename_i z
      have z0 : x.natAbs ≠ 0 := by intro q; apply z; rw [beq_iff_eq]; omega
      have := (Nat.log2_lt z0).mpr h
      have e : (2 : Nat) ^ 20 = 1048576 := by decide
      omega
  exact IntMulOk.of_bits (b i hi) (b j hj)
/-- a positive divisor below 2 ^ 1000 -/
def CBig (j : Int) : Prop := 0 < j ∧ j.natAbs.log2 < 9000
def wAugF (i : Nat) (we : WE) : WS := fun E env h => match env[i]? with
  | some (some (.int a)) => we env h (fun d h1 => match d with
    | .int b => CBig b ∧ E.nx (env.set i (some (.int (a / b)))) h1
    | _ => False) (fun x h1 => E.rx x env h1)
  | _ => False
theorem ip_fdivB : PIp X .FloorDiv (fun x y H Q => ∃ i j, x = .int i ∧ y = .int j ∧ CBig j ∧ Q (.int (i / j)) H) := by
  intro pins s σ H x y v u Q I r1 r2 h
  obtain ⟨i, j, e1, e2, hc, q⟩ := h
  subst e1; subst e2
  obtain ⟨t, rfl⟩ := r1
  obtain ⟨t', rfl⟩ := r2
  have h0 : ¬ (j == 0) = true := by
    rw [beq_iff_eq]; have := hc.1; omega
  have h1 : ¬ Builtin.divisionGoesByPylong i j = true := by rw [PyProof.noPylong_of_log2 hc.2]; exact Bool.false_ne_true
  exact AutoIntOps.ifloordiv_1 h0 h1 (by rw [Int.fdiv_eq_ediv_of_nonneg i (by have := hc.1; omega)]; exact ⟨.int _, H, I.tok _, ⟨_, rfl⟩, q⟩)
theorem ds_fdivM {i : Nat} (hN : X.N.Nodup) (he : DE X e we) (hi : X.N[i]? = some x := by rfl) (hx : Loc X.env.scope x := by first | exact Or.inl rfl | exact Or.inr rfl) (hf : X.fn x = true ∨ X.env.scope.names.lookup x = some .local := by first | exact .inl rfl | exact .inr rfl) :
    DS X (.AugAssign (.Name x pos') .FloorDiv e pos) (wAugF i we) := ⟨fun W ck => (ps_aug hN hi hx (he.ok W ck) ip_fdivB hf).imp fun D σ H ⟨E, env, h, rs, rw_, q, ks⟩ => by
  unfold wAugF at q
  split at q
  · rename_i a e1
    obtain ⟨v, e2, rv⟩ := rs.get e1
    cases rv
    refine ⟨_, e2, env, h, _, _, rs, rw_, q, fun d h1 v H1 p1 r1 rd q1 => ?_, ks.kx rs⟩
    cases d <;> try exact q1.elim
    cases rd
    exact ⟨_, _, rfl, rfl, q1.1, ks.nx _ h1 _ H1 p1 ((rs.mono p1).set i (.int _)) r1 q1.2⟩
  · exact q.elim⟩
theorem zEAugF {i : Nat} {E : En} {env : Ev} {h : DH} : wAugF i we E env h = wVar i env h (fun d _ => match d with
  | .int a => we env h (fun d h1 => match d with
    | .int b => CBig b ∧ E.nx (env.set i (some (.int (a / b)))) h1
    | _ => False) (fun x h1 => E.rx x env h1)
  | _ => False) (fun _ _ => False) := by
  unfold wAugF wVar
  cases env[i]? with
  | none => rfl
  | some o =>
    cases o with
    | none => rfl
    | some d => cases d <;> rfl
/-- n items, from hi - 1 down -/
def downto (hi : Int) (n : Nat) : List D := (List.range n).map fun k : Nat => .int (hi - 1 - (k : Nat))
theorem downto_len {hi : Int} {n : Nat} : (downto hi n).length = n := by unfold downto; rw [List.length_map, List.length_range]
theorem downto_get {hi : Int} {n i : Nat} {x : D} (h : (downto hi n)[i]? = some x) : i < n ∧ x = .int (hi - 1 - (i : Nat)) := by
  have hl : i < n := by have := (List.getElem?_eq_some_iff.mp h).1; rwa [downto_len] at this
  unfold downto at h
  rw [List.getElem?_map, List.getElem?_range hl] at h
  cases h
  exact ⟨hl, rfl⟩
theorem it_down {K : PySem.W.Frag} {H1 : Hp} {lo : Int} {n : Nat} : ItOk K H1 ⟨downto (lo + (n : Nat)) n, fun _ => True⟩ (Itc (lo + (n : Nat) - 1) (-1) n) := fun i H h p rw_ _ =>
  ⟨fun x hx => by
    obtain ⟨hi, rfl⟩ := downto_get hx
    exact ⟨hi, fun v H' ⟨e1, e2⟩ => by
      subst e1 e2
      rw [show lo + (n : Int) - 1 + (i : Int) * (-1) = lo + (n : Int) - 1 - (i : Int) by omega]
      exact ⟨.refl _, rw_, .int _⟩⟩, fun hl => by
    have z : n ≤ i := by
      have hl : (downto (lo + (n : Nat)) n).length ≤ i := Nat.le_of_eq hl.symm
      rwa [downto_len] at hl
    exact z⟩
def wRevR1 (we : WE) : WI := fun env h Q Qx => we env h (fun d h1 => match d with
  | .int j => -(2 ^ 62) ≤ j ∧ j < 2 ^ 62 ∧ Q ⟨downto j.toNat j.toNat, fun _ => True⟩ h1
  | _ => False) Qx
theorem di_revR1 {tg a : Expr} (hg : Gl X "reversed") (hm : X.mg "reversed" = none) (hg2 : Gl X "range") (hm2 : X.mg "range" = none) (ha : DE X a we) (na : starEach [a] X.env = (false, eval a X.env) :: starEach [] X.env := by rfl)
    (hs : starEach [.Call (.Name "range" p2) [a] [] pos'] X.env = (false, eval (.Call (.Name "range" p2) [a] [] pos') X.env) :: starEach [] X.env := by rfl) : DI X tg (.Call (.Name "reversed" p) [.Call (.Name "range" p2) [a] [] pos'] [] pos) (wRevR1 we) :=
  ⟨fun W ck => (pi_revR hg hm (prg_1 hg2 hm2 (ha.ok W ck) na) hs).imp fun σ H R ⟨env, h, Qn, Qx, rs, rw_, q, kr, kx⟩ =>
    ⟨env, h, _, Qx, rs, rw_, q, fun d h1 v H1 p1 r1 rd q1 => by
      dsimp only at q1
      split at q1
      · rename_i j
        cases rd
        refine ⟨j, rfl, by decide, by decide, q1.1, q1.2.1, ?_⟩
        have e : (j - 0).toNat = j.toNat := by rw [Int.sub_zero]
        rw [e]
        have z := kr _ h1 _ H1 p1 r1 (it_down (lo := 0) (n := j.toNat)) (by rw [Int.zero_add]; exact q1.2.2)
        exact z
      · exact q1.elim, kx⟩⟩
theorem zERevR1 {env : Ev} {h : DH} {Qx : QX} {QI : Src → DH → Prop} : wRevR1 we env h QI Qx = we env h (fun d h1 => match d with
  | .int j => -(2 ^ 62) ≤ j ∧ j < 2 ^ 62 ∧ QI ⟨downto j.toNat j.toNat, fun _ => True⟩ h1
  | _ => False) Qx := rfl
end
end DL
namespace L2
open PySem PySem.Spec PyProof.Rows
/-- zip of the list at a and the tuple at b -/
def ItzM (K : PySem.W.Frag) (a b : Addr) : It :=
  ⟨fun i H => ∃ (xs ys : List V) (x y : V), SqL K H a xs ∧ SqT K H b ys ∧ xs[i]? = some x ∧ ys[i]? = some y,
    fun i H v H' => ∃ T x y, v = .ref T ∧ H T = none ∧ H' = upd H T (.tup [x, y]) ∧ (∀ xs, SqL K H a xs → xs[i]? = some x) ∧ ∀ ys, SqT K H b ys → ys[i]? = some y,
    fun i H => ∃ xs ys : List V, SqL K H a xs ∧ SqT K H b ys ∧ i ≤ xs.length ∧ i ≤ ys.length ∧ (i = xs.length ∨ i = ys.length)⟩
theorem ne_list {h : Heap} {it a : Addr} {i : Nat} {items : Array Value} (hit : h.IsListIter it a i) (ht : h.IsList a items) : a ≠ it := fun z => by
  obtain ⟨o1, g1, c1, _⟩ := hit
  obtain ⟨o2, g2, c2, _⟩ := ht
  subst z; rw [g1] at g2; cases g2; rw [c1] at c2; exact absurd c2 (by decide)
theorem ne_tuple {h : Heap} {it a : Addr} {i : Nat} {items : Array Value} (hit : h.IsTupleIter it a i) (ht : h.IsTuple a items) : a ≠ it := fun z => by
  obtain ⟨o1, g1, c1, _⟩ := hit
  obtain ⟨o2, g2, c2, _⟩ := ht
  subst z; rw [g1] at g2; cases g2; rw [c1] at c2; exact absurd c2 (by decide)
theorem turn_zipM {P : Program} {w : World} {K : PySem.W.Frag} {elts : List Expr} {kk : Nat} {tpos : Pos} {a b z TI TO i1 i2 : Addr} (S : ZipSep2 z TI TO i1 i2 [i1, a] [i2, b]) :
    Turn P w K (.Tuple elts kk tpos) (ItzM K a b) [z, TI, TO, i1, i2] z (fun i h => IsZip h z TI TO .none ∧ IsTupOf2 h TI (.ref i1) (.ref i2) ∧ (∃ x y, IsTupOf2 h TO x y) ∧ h.IsListIter i1 a i ∧ h.IsTupleIter i2 b i) where
  mem := by simp
  obj := fun i h st c hc => by
    obtain ⟨hz, hTI, ⟨x, y, hTO⟩, ⟨o1, e1, _, d1⟩, ⟨o2, e2, _, d2⟩⟩ := st
    simp only [List.mem_cons, List.not_mem_nil, or_false] at hc
    rcases hc with rfl | rfl | rfl | rfl | rfl
    · exact ⟨_, hz, fun v q => nomatch q⟩
    · exact ⟨_, hTI, fun v q => nomatch q⟩
    · exact ⟨_, hTO, fun v q => nomatch q⟩
    · exact ⟨o1, e1, fun v q => by rw [d1] at q; cases q⟩
    · exact ⟨o2, e2, fun v q => by rw [d2] at q; cases q⟩
  keep := fun i h h' st k => by
    obtain ⟨hz, hTI, ⟨x, y, hTO⟩, h1, h2⟩ := st
    exact ⟨k z (by simp) _ hz, k TI (by simp) _ hTI, ⟨x, y, k TO (by simp) _ hTO⟩, h1.at fun o q => k i1 (by simp) o q, h2.at fun o q => k i2 (by simp) o q⟩
  item := by
    intro X hP hw hK hc i pins s σ H E I hf st hg
    subst hP hw hK
    obtain ⟨hz, hTI, ⟨x0, y0, hTO⟩, h1, h2⟩ := st
    obtain ⟨xs, ys, x, y, hqx, hqy, hx, hy⟩ := hg
    obtain ⟨its, rv, p, _⟩ := I.list hqx
    obtain ⟨its2, rv2, p2, _⟩ := I.tuple hqy
    obtain ⟨u, hu, ru⟩ := rv.get hx
    obtain ⟨u2, hu2, ru2⟩ := rv2.get hy
    have p1 : s.heap.IsList a its.toArray := p.isList
    have p2 : s.heap.IsTuple b its2.toArray := p2
    have n1 := ne_list h1 p1
    have n2 := ne_tuple h2 p2
    have lt1 : i < its.toArray.size := by rw [List.size_toArray]; exact (List.getElem?_eq_some_iff.mp hu).1
    have lt2 : i < its2.toArray.size := by rw [List.size_toArray]; exact (List.getElem?_eq_some_iff.mp hu2).1
    have hzl : z < s.heap.objs.size := Heap.lt_size hz
    refine wpAny_pyNext_zipD2_item S (Draws.list (A := X.A.in1) (I.ok.hd hc) i1 a n1 its.toArray) (Draws.tuple (A := X.A.in1) (I.ok.hd hc) i2 b n2 its2.toArray) hz hTI hTO ⟨h1, p1⟩ ⟨h2, p2⟩ lt1 lt2 fun y1 y2 h' tk g1 g2 hz' hTO' st1 st2 hT hsz hk => ?_
    have e1 : y1 = u := by
      have q : its[i]? = some y1 := by simpa using g1
      rw [hu] at q; cases q; rfl
    have e2 : y2 = u2 := by
      have q : its2[i]? = some y2 := by simpa using g2
      rw [hu2] at q; cases q; rfl
    subst e1 e2
    refine ⟨_, rfl, wpAny_letOwnedTupleGo_zip (s := { s with heap := h', toks := tk }) hz' fun h'' hz'' sb => ?_⟩
    have hT2 : IsTupOf2 h'' s.heap.objs.size y1 y2 := (sb.2 _ (Nat.ne_of_gt hzl)).trans hT
    have new : ObjOk X.prog X.w (upd H s.heap.objs.size (.tup [x, y])) h'' s.heap.objs.size (.tup [x, y]) :=
      ⟨by show 2 ≤ sizeLine; decide, [y1, y2], .cons ru (.cons ru2 .nil), ⟨_, hT2, rfl, _, rfl⟩⟩
    have I1 : Inv X pins σ (upd H s.heap.objs.size (.tup [x, y])) { s with heap := h'', toks := tk } :=
      I.turnedNew (ch := [z, TI, TO, i1, i2]) (fun c ob hb q => (sb.2 c (fun q' => hb (by simp [q']))).trans (hk c ob (fun q' => hb (by simp [q'])) (fun q' => hb (by simp [q'])) (fun q' => hb (by simp [q'])) (fun q' => hb (by simp [q'])) q)) hf (Nat.le_refl _) new
    refine ⟨.ref s.heap.objs.size, _, I1, rfl, ⟨_, x, y, rfl, I.hok.fresh (Nat.le_refl _), rfl, fun l hl => by rw [I.list_inj hl hqx]; exact hx, fun l hl => by rw [I.tuple_inj hl hqy]; exact hy⟩, ⟨hz'', ?_, ⟨y1, y2, ?_⟩, ?_, ?_⟩, fun c hcm => ?_⟩
    · exact (sb.2 _ S.TIz).trans (hk _ _ S.TIz S.TITO S.TIi1 S.TIi2 hTI)
    · exact (sb.2 _ S.TOz).trans hTO'
    · exact st1.1.at fun o q => (sb.2 _ (Ne.symm S.zi1)).trans q
    · exact st2.1.at fun o q => (sb.2 _ (Ne.symm S.zi2)).trans q
    · have hlt : c < s.heap.objs.size := by
        simp only [List.mem_cons, List.not_mem_nil, or_false] at hcm
        rcases hcm with rfl | rfl | rfl | rfl | rfl
        · exact hzl
        · exact Heap.lt_size hTI
        · exact Heap.lt_size hTO
        · obtain ⟨_, q, _⟩ := h1; exact Heap.lt_size q
        · obtain ⟨_, q, _⟩ := h2; exact Heap.lt_size q
      rw [upd_ne (Nat.ne_of_lt hlt)]
      exact (hf c hcm).1
  done := by
    intro X hP hw hK hc i pins s σ H E I hf st hg
    subst hP hw hK
    obtain ⟨hz, hTI, ⟨x0, y0, hTO⟩, h1, h2⟩ := st
    obtain ⟨xs, ys, hqx, hqy, l1, l2, hend⟩ := hg
    obtain ⟨its, rv, p, _⟩ := I.list hqx
    obtain ⟨its2, rv2, p2, _⟩ := I.tuple hqy
    have p1 : s.heap.IsList a its.toArray := p.isList
    have p2 : s.heap.IsTuple b its2.toArray := p2
    have z1 := rv.length
    have z2 := rv2.length
    refine wpAny_pyNext_zipD2_end S (Draws.list (A := X.A.in1) (I.ok.hd hc) i1 a (ne_list h1 p1) its.toArray) (Draws.tuple (A := X.A.in1) (I.ok.hd hc) i2 b (ne_tuple h2 p2) its2.toArray) hz hTI hTO ⟨h1, p1⟩ ⟨h2, p2⟩ (by rw [List.size_toArray]; omega) (by rw [List.size_toArray]; omega) (by rw [List.size_toArray, List.size_toArray]; omega) fun h' tk hk => ?_
    exact ⟨rfl, I.turnedL (t' := tk) (ch := [z, TI, TO, i1, i2]) (fun c o hb q =>
      hk c o (fun q' => hb (by simp [q'])) (fun q' => hb (by simp [q'])) (fun q' => hb (by simp [q'])) (fun q' => hb (by simp [q'])) q) hf⟩
  self := fun A i s Q E st h => wpAny_pyIter_zip st.1 h
theorem ge5 {n c : Nat} (h : c ∈ [n + 4, n + 2, n + 3, n, n + 1]) : n ≤ c := by
  simp only [List.mem_cons, List.not_mem_nil, or_false] at h
  omega
theorem nin2 {x y z : Nat} (h1 : x ≠ y) (h2 : x ≠ z) : x ∉ [y, z] := by
  simp only [List.mem_cons, List.not_mem_nil, or_false]
  omega
theorem zipSep {n a b : Nat} (la : a < n) (lb : b < n) : @ZipSep2 (n + 4 : Nat) (n + 2 : Nat) (n + 3 : Nat) n (n + 1 : Nat) [n, a] [(n + 1 : Nat), b] where
  TIz := show (n + 2 : Nat) ≠ n + 4 by omega
  TOz := show (n + 3 : Nat) ≠ n + 4 by omega
  TITO := show (n + 2 : Nat) ≠ n + 3 by omega
  TIi1 := show (n + 2 : Nat) ≠ n by omega
  mem1 := List.mem_cons_self
  zf1 := nin2 (by omega) (by omega)
  Tf1 := nin2 (by omega) (by omega)
  TIi2 := show (n + 2 : Nat) ≠ n + 1 by omega
  mem2 := List.mem_cons_self
  zf2 := nin2 (by omega) (by omega)
  Tf2 := nin2 (by omega) (by omega)
  sep1_2 := nin2 (by omega) (by omega)
  sep2_1 := nin2 (by omega) (by omega)
/-- zip(e, e2), a list and a tuple -/
def iZipM (K : PySem.W.Frag) (ta : TA) : TI := fun σ H R => ta σ H fun vs H1 => ∃ a b xs ys, vs = [.ref a, .ref b] ∧ SqL K H1 a xs ∧ SqT K H1 b ys ∧ R (ItzM K a b) H1
theorem pi_zipM {X : Cx} {e e2 : Expr} {ta : TA} {p pos tpos : Pos} {elts : List Expr} {kk : Nat} (hg : Gl X "zip") (hm : X.mg "zip" = none) (ha : PA X [e, e2] ta)
    (hs : starEach [e, e2] X.env = (false, eval e X.env) :: starEach [e2] X.env := by rfl) (hpl : (backTo pos (starEach [e2] X.env)).any (·.1) = false := by rfl) :
    PI X (.Tuple elts kk tpos) (.Call (.Name "zip" p) [e, e2] [] pos) (iZipM X.K ta) := by
  refine ⟨fun pins s σ H R I h => ?_⟩
  refine Call_ (ld_blt I hg hm PyProof.Rows.boot_zip (PyProof.Rows.callWith_type1 (thn (ha.run pos pins s σ H _ I h) fun us s1 ⟨vs, H1, I1, r1, q1⟩ => ?_) hs hpl))
  obtain ⟨a, b, xs, ys, ex, hqx, hqy, q⟩ := q1
  subst ex
  obtain ⟨u1, u2, rfl, ra, rb⟩ := vals2 r1
  cases (show u1 = Value.ref a from ra)
  cases (show u2 = Value.ref b from rb)
  obtain ⟨its, rv, p1, _⟩ := I1.list hqx
  obtain ⟨its2, rv2, p2, _⟩ := I1.tuple hqy
  have p2 : s1.heap.IsTuple b its2.toArray := p2
  have la : a < s1.heap.objs.size := p1.lt
  have lb : b < s1.heap.objs.size := by obtain ⟨_, z, _⟩ := p2; exact Heap.lt_size z
  refine zip_begins2 (begins_list a its.toArray) (begins_tuple b its2.toArray) p1.isList p2 fun h' hz hTI hTO g1 g2 hsz hk => wpAny_pyIter_zip hz ?_
  have I2 : Inv X pins σ H1 { s1 with heap := h' } := I1.kept (t' := s1.toks) hk
  have S : ZipSep2 (s1.heap.objs.size + 4) (s1.heap.objs.size + 2) (s1.heap.objs.size + 3) s1.heap.objs.size (s1.heap.objs.size + 1) [s1.heap.objs.size, a] [s1.heap.objs.size + 1, b] :=
    zipSep la lb
  have fp : ∀ c ∈ [s1.heap.objs.size + 4, s1.heap.objs.size + 2, s1.heap.objs.size + 3, s1.heap.objs.size, s1.heap.objs.size + 1], FpOk X pins H1 c := fun c hc => by
    have hle : s1.heap.objs.size ≤ c := ge5 hc
    exact I1.fpOk hle (I1.hok.fresh hle)
  exact ⟨s1.heap.objs.size + 4, [s1.heap.objs.size + 4, s1.heap.objs.size + 2, s1.heap.objs.size + 3, s1.heap.objs.size, s1.heap.objs.size + 1], _, _, H1, rfl, I2, turn_zipM S, ⟨hz, hTI, ⟨_, _, hTO⟩, ⟨_, g1, rfl, rfl⟩, ⟨_, g2, rfl, rfl⟩⟩, fp, q⟩
end L2
namespace DL
open PySem PySem.Spec PyProof.Rows L2
def zipD (xs ys : List D) : List D := (xs.zip ys).map fun p => .otup [p.1, p.2]
theorem zipD_len {xs ys : List D} : (zipD xs ys).length = min xs.length ys.length := by unfold zipD; rw [List.length_map, List.length_zip]
theorem zipD_get {xs ys : List D} {i : Nat} {d : D} (h : (zipD xs ys)[i]? = some d) : ∃ x y, xs[i]? = some x ∧ ys[i]? = some y ∧ d = .otup [x, y] := by
  unfold zipD at h
  rw [List.getElem?_map] at h
  obtain ⟨⟨x, y⟩, e, rfl⟩ := Option.map_eq_some_iff.mp h
  rw [List.getElem?_zip_eq_some] at e
  exact ⟨x, y, e.1, e.2, rfl⟩
theorem it_zipM {K : PySem.W.Frag} {H1 : Hp} {a b : Addr} {xs ys : List D} {gd : DH → Prop} (at_ : ∀ H h, Pe H1 H → RW K h H → gd h → ∃ vs, SqL K H a vs ∧ RDs K H xs vs) (bt : ∀ H, Pe H1 H → ∃ us, SqT K H b us ∧ RDs K H ys us) : ItOk K H1 ⟨zipD xs ys, gd⟩ (ItzM K a b) := fun i H h p rw_ g => by
  obtain ⟨vs, s, r⟩ := at_ H h p rw_ g
  obtain ⟨us, s2, r2⟩ := bt H p
  refine ⟨fun d hd => ?_, fun hl => ⟨vs, us, s, s2, ?_⟩⟩
  · obtain ⟨x, y, hx, hy, rfl⟩ := zipD_get hd
    obtain ⟨v, hv, rd⟩ := r.get hx
    obtain ⟨u, hu, rd2⟩ := r2.get hy
    refine ⟨⟨vs, us, v, u, s, s2, hv, hu⟩, fun v' H' z => ?_⟩
    obtain ⟨T, x', y', rfl, hT, rfl, z1, z2⟩ := z
    have w1 := z1 vs s
    have w2 := z2 us s2
    rw [hv] at w1
    rw [hu] at w2
    cases w1
    cases w2
    exact ⟨Pe.new hT, rw_.beside hT, .otup upd_same (.cons (rd.mono (Pe.new hT)) (.cons (rd2.mono (Pe.new hT)) .nil))⟩
  · have hl : i = (zipD xs ys).length := hl
    rw [zipD_len] at hl
    rw [← r.length, ← r2.length]
    omega
section
variable {X : Cx} {e e2 : Expr} {p pos tpos : Pos} {elts : List Expr} {kk : Nat} {ws : WA}
def wZipM (ws : WA) : WI := fun env h Q Qx => ws env h (fun ds h1 => match ds with
  | [.ref a, .tup ys] => lstQ h1 (.ref a) fun a xs => Q ⟨zipD xs ys, fun h' => h' a = some (.lst xs)⟩ h1
  | _ => False) Qx
theorem di_zipM (hg : Gl X "zip") (hm : X.mg "zip" = none) (ha : DA X [e, e2] ws) (hs : starEach [e, e2] X.env = (false, eval e X.env) :: starEach [e2] X.env := by rfl) (hpl : (backTo pos (starEach [e2] X.env)).any (·.1) = false := by rfl) : DI X (.Tuple elts kk tpos) (.Call (.Name "zip" p) [e, e2] [] pos) (wZipM ws) :=
  ⟨fun W ck => (pi_zipM hg hm (ha.ok W ck) hs hpl).imp fun σ H R ⟨env, h, Qn, Qx, rs, rw_, q, kr, kx⟩ =>
    ⟨env, h, _, Qx, rs, rw_, q, fun ds h1 vs H1 p1 r1 rds q1 => by
      split at q1
      · rename_i a ys
        obtain ⟨a', xs, ea, e1, q2⟩ := q1.get
        cases ea
        cases rds with
        | cons rd t =>
          cases t with
          | cons rd2 t =>
            cases t
            cases rd
            obtain ⟨b, us, rfl, tb, rb⟩ := rd2.tup_inv
            obtain ⟨ws', hv, rr⟩ := r1 _ _ e1
            exact ⟨_, b, ws', us, rfl, SqL.of hv, tb.sqT, kr _ h1 _ H1 p1 r1 (it_zipM (fun H h p rw_ g => by
              obtain ⟨vs', hv', r'⟩ := rw_ _ _ g
              exact ⟨vs', SqL.of hv', r'⟩) fun H p => ⟨us, p.sqT tb.sqT, rb.mono p⟩) q2⟩
      · exact q1.elim, kx⟩⟩
theorem zEZipM {env : Ev} {h : DH} {Qx : QX} {QI : Src → DH → Prop} : wZipM ws env h QI Qx = ws env h (fun ds h1 => match ds with
  | [.ref a, .tup ys] => lstQ h1 (.ref a) fun a xs => QI ⟨zipD xs ys, fun h' => h' a = some (.lst xs)⟩ h1
  | _ => False) Qx := rfl
end
end DL
/-- ys at the places a, a + c, .. -/
def DL.putSt {α : Type} (a c : Nat) : List α → Nat → List α → List α
  | xs, _, [] => xs
  | xs, k, y :: ys => putSt a c (xs.set (a + c * k) y) (k + 1) ys
namespace HT
open PySem PyProof.Rows
section
open PySem.SeqAt
open PySem.AutoSeq1 (wpAny_loadPart')
open PySem.MeetsSeq PySem.MeetsSeq2 PySem.MeetsSeq3
variable {prog : Program} {w : World} {A : Around} {E : Value → Shared → Prop} {s : Shared}
theorem bounds_step {a c n : Nat} (ha : a ≤ n) (hc : 1 < c) : sliceBounds (some (a : Int)) none (some (c : Int)) n = ((a : Int), (n : Int), (c : Int)) := by
  have h1 : ¬ ((a : Int) < 0) := by omega
  have h2 : (c : Int) > 0 := by omega
  simp only [sliceBounds, Option.getD_some, h1, h2, if_false, if_true]
  congr 1
  omega
/-- how many places -/
def cntSt (a c n : Nat) : Nat := if a < n then (n - a - 1) / c + 1 else 0
theorem range_step {a c n : Nat} (hc : 1 < c) : sliceRange (a : Int) (n : Int) (c : Int) = (List.range (cntSt a c n)).map fun k => a + c * k := by
  have h2 : (c : Int) > 0 := by omega
  unfold sliceRange cntSt
  simp only [h2, if_true]
  have e : (if (a : Int) < (n : Int) then ((n : Int) - (a : Int) + (c : Int) - 1) / (c : Int) else 0).toNat = if a < n then (n - a - 1) / c + 1 else 0 := by
    by_cases h : a < n
    · rw [if_pos (by omega : (a : Int) < (n : Int)), if_pos h]
      have : (n : Int) - (a : Int) + (c : Int) - 1 = ((n - a - 1 : Nat) : Int) + 1 * (c : Int) := by omega
      rw [this, Int.add_mul_ediv_right _ _ (by omega), ← Int.natCast_ediv]
      generalize (n - a - 1) / c = f
      omega
    · rw [if_neg (by omega : ¬ (a : Int) < (n : Int)), if_neg h]; rfl
  rw [e]
  refine List.map_congr_left fun k _ => ?_
  have : (a : Int) + (c : Int) * (k : Int) = ((a + c * k : Nat) : Int) := by push_cast; rfl
  rw [this, Int.toNat_natCast]
theorem foldl_put (a c : Nat) : ∀ (new : List Value) (k : Nat) (xs : List Value) (m : Nat), m = new.length →
    (((List.range' k m).map fun j => a + c * j).zip new).foldl (fun xs p => xs.setIfInBounds p.1 p.2) xs.toArray = (DL.putSt a c xs k new).toArray
  | [], k, xs, m, e => by subst e; rfl
  | y :: ys, k, xs, m, e => by
    subst e
    rw [List.length_cons, List.range'_succ, List.map_cons, List.zip_cons_cons, List.foldl_cons]
    rw [show (xs.toArray.setIfInBounds (a + c * k) y) = (xs.set (a + c * k) y).toArray by simp]
    exact foldl_put a c ys (k + 1) (xs.set (a + c * k) y) ys.length rfl
theorem put_len {α : Type} (a c : Nat) : ∀ (new : List α) (k : Nat) (xs : List α), (DL.putSt a c xs k new).length = xs.length
  | [], _, _ => rfl
  | y :: ys, k, xs => by unfold DL.putSt; rw [put_len a c ys]; simp
/-- list.__setitem__ with a slice a::c, c over 1, and another list of just as many items -/
theorem setItem_step {l b sl : Addr} {its new : List Value} {n n2 : Nat} {vl vc : Value} {a c : Nat} {Q : Unit → Shared → Prop}
    (e : s.heap.get? l = some { cls := .type "list", data := .seq its.toArray n }) (e2 : s.heap.get? b = some { cls := .type "list", data := .seq new.toArray n2 }) (hne : l ≠ b)
    (hs : s.heap.IsSliceOf sl vl .none vc) (pl : IsPart vl (some (a : Int))) (pc : IsPart vc (some (c : Int))) (hac : a ≤ its.length) (hc : 1 < c) (hn : new.length = cntSt a c its.length)
    (hsz : its.length ≤ sizeLine) (h : ∀ f : Array Value → Array Value, f its.toArray = (DL.putSt a c its 0 new).toArray → Q () { s with heap := s.heap.update l (Obj.mapSeq f) }) :
    wpAny (model prog w) A (setItem (.ref l) (.ref sl) (.ref b)) Q E s := by
  have hl : s.heap.IsList l its.toArray := PySem.IsL.isList e
  have hb : s.heap.IsList b new.toArray := PySem.IsL.isList e2
  obtain ⟨os, hos, hcs, hds⟩ := id hs
  have hTs : s.TypeIs (.ref sl) "slice" := ⟨os, hos, hcs⟩
  have hstep : ¬ ((rawPart (some (c : Int)) == rawInt 0) = true) := by
    intro z
    have : rawPart (some (c : Int)) = rawInt 0 := eq_of_beq z
    unfold rawPart rawInt at this
    injection this with this
    omega
  have hsame : Builtin.List.listSameRef (.ref l) (.ref b) = false := by
    unfold Builtin.List.listSameRef
    exact beq_eq_false_iff_ne.mpr hne
  unfold setItem
  try with_reducible refine wpAny_holding ?_
  first | refine wpAny_bind (wpAny_pure ?_) | skip
  refine wpAny_bind (wpAny_sequenceKey hl.typeIs (by decide) ?_)
  refine wpAny_bind (wpAny_callSpecial?_slot (name := Str.ofString "__setitem__") hl.typeIs slot_list_setitem
    (wpAny_call_entry slot_list_setitem hl.typeIs entry_list_setitem ?_ (args_list_setitem _ _ _)))
  show wpAny _ _ (Builtin.List.listSubscript? (.ref sl) >>= _) _ _ s
  refine wpAny_bind ?_
  unfold Builtin.List.listSubscript?
  refine wpAny_bind (wpAny_specialOf hTs slice_no_index ?_)
  simp only [Option.isNone_none, if_true]
  refine wpAny_pure ?_
  show wpAny _ _ (typeOf (.ref sl) >>= _) _ _ s
  refine wpAny_bind (wpAny_typeOf hTs ?_)
  first
    | rw [if_neg (by decide)]
    | refine PySem.W.KFB.if_not (by decide) ?_
  rw [listSliceParts_eq]
  refine wpAny_bind (wpAny_bind (wpAny_field hos hds (x := vc) rfl (wpAny_bind (wpAny_listPart pc ?_))))
  rw [if_neg hstep]
  refine wpAny_bind (wpAny_field hos hds (x := vl) rfl (wpAny_bind (wpAny_listPart pl ?_)))
  refine wpAny_bind (wpAny_field hos hds (x := .none) rfl (wpAny_bind (wpAny_listPart .none (wpAny_pure ?_))))
  first
    | simp only [hsame, Bool.false_eq_true, if_false]
    | refine PySem.W.KFB.if_not hsame ?_
    | (dsimp only
       rw [if_neg (by rw [hsame]; exact Bool.false_ne_true)])
  refine wpAny_bind (m := Builtin.List.listAllItems (.ref b) "must assign iterable to extended slice") ?_
  unfold Builtin.List.listAllItems
  refine wpAny_bind (wpAny_typeOf hb.typeIs ?_)
  first
    | refine PySem.W.KFB.if_so (by decide) ?_
    | rw [if_pos (by decide)]
    | simp only [beq_self_eq_true, Bool.true_or, if_true]
  unfold Builtin.List.listItems
  refine wpAny_bind (wpAny_seqItems e2 rfl (wpAny_pure ?_))
  refine wpAny_bind (wpAny_bind (wpAny_seqItems e rfl (wpAny_pure ?_)))
  refine wpAny_bind (wpAny_of_eq ((sliceIndices_raw (some (a : Int)) none (some (c : Int)) its.toArray.size (by simp; omega)).trans (congrArg (pure : Int × Int × Int → Sem (Int × Int × Int)) (bounds_step (by simpa using hac) hc))) ?_)
  show wpAny _ _ (if (((c : Int)) == 1) = true then _ else _) _ _ s
  rw [if_neg (by rw [beq_iff_eq]; omega)]
  have hr : sliceRange (a : Int) ((its.toArray.size : Nat) : Int) (c : Int) = (List.range' 0 (cntSt a c its.length)).map fun j => a + c * j := by
    rw [List.size_toArray, range_step hc, List.range_eq_range']
  show wpAny _ _ (if (new.toArray.size != (sliceRange (a : Int) ((its.toArray.size : Nat) : Int) (c : Int)).length) = true then _ else _) _ _ s
  rw [if_neg (by rw [hr, List.length_map, List.length_range', List.size_toArray, hn]; simp)]
  refine wpAny_bind (wpAny_rule ?_)
  show wpAny _ _ (updateSeq l (fun xs => ((sliceRange (a : Int) ((its.toArray.size : Nat) : Int) (c : Int)).zip new.toArray.toList).foldl (fun xs p => xs.setIfInBounds p.1 p.2) xs) >>= _) _ _ s
  have hf := foldl_put a c new 0 its (cntSt a c its.length) hn.symm
  rw [hr]
  refine wpAny_bind (wpAny_updateSeq (hz := by rw [List.size_toArray]; exact hsz) (_hz' := ?hz) e rfl ?_)
  case hz => rw [show new.toArray.toList = new from rfl, hf, List.size_toArray, put_len]; omega
  refine wpAny_bind (wpAny_letGo ?_)
  first
    | exact wpAny_bind (wpAny_pure (wpAny_pure ⟨.none, rfl, wpAny_pure (h _ hf)⟩))
    | exact wpAny_pure ⟨.none, rfl, wpAny_pure (h _ hf)⟩
end
end HT
namespace L2
open PySem PySem.Spec PyProof.Rows
theorem Vals.put {a c : Nat} : ∀ {ys : List V} {vs : List Value} (k : Nat) {xs : List V} {us : List Value}, Vals xs us → Vals ys vs → Vals (DL.putSt a c xs k ys) (DL.putSt a c us k vs)
  | _, _, _, _, _, r, .nil => r
  | _, _, k, _, _, r, .cons q t => Vals.put (k + 1) (r.set q _) t
section
variable {X : Cx} {o lo st a b c : Expr} {to tlo tst : TE} {ta : TA} {pos p p2 pos2 : Pos}
/-- o[lo::st] = a list -/
def gSubSt (to tlo tst : TE) : TG := fun v σ H Q => to σ H fun o H1 => tlo σ H1 fun x H2 => tst σ H2 fun y H3 => ∃ (l b : Addr) (xs ys : List V) (a c : Nat), o = .ref l ∧ v = .ref b ∧ x = .int (a : Int) ∧ y = .int (c : Int) ∧
  H3 l = some (.lst xs) ∧ H3 b = some (.lst ys) ∧ l ≠ b ∧ a ≤ xs.length ∧ 1 < c ∧ ys.length = HT.cntSt a c xs.length ∧ Q σ (upd H3 l (.lst (DL.putSt a c xs 0 ys)))
theorem pg_subSt (ho : PE X o to) (hlo : PE X lo tlo) (hst : PE X st tst)
    (ha : ∀ v, assign (.Subscript o (.Slice (some lo) none (some st) p2) pos) X.env v = (do
      let ov ← holding [v] (eval o X.env)
      let iv ← holding [v, ov] (eval (.Slice (some lo) none (some st) p2) X.env)
      standAt pos
      holding [v, ov, iv] (setItem ov iv v)
      release [v, ov, iv] []) := by intro _; rfl) : PG X (.Subscript o (.Slice (some lo) none (some st) p2) pos) (gSubSt to tlo tst) := by
  refine ⟨fun pins s σ H v u Q I r h => ?_⟩
  rw [ha]
  refine wpAny_bind (wpAny_holding (thn (ho.run pins s σ H _ I h) fun ov s1 ⟨x, H1, I1, r1, q1⟩ => ?_))
  refine wpAny_bind (wpAny_holding (wpAny_Slice ?_))
  rw [evalPart_some]
  refine thn (hlo.run pins s1 σ H1 _ I1 q1) fun vl s2 ⟨y, H2, I2, r2, q2⟩ => ?_
  rw [evalPart_none]
  refine wpAny_pure ?_
  rw [evalPart_some]
  refine thn (hst.run pins s2 σ H2 _ I2 q2) fun vc s3 ⟨z, H3, I3, r3, q3⟩ => ?_
  obtain ⟨l, b, xs, ys, a, c, ex, ev, ey, ez, hl, hb, hne, hac, hc, hn, q3⟩ := q3
  subst ex; subst ev; subst ey; subst ez
  cases r1
  cases r
  obtain ⟨t1, rfl⟩ := (show ∃ t, vl = Value.int (a : Int) t from r2)
  obtain ⟨t2, rfl⟩ := (show ∃ t, vc = Value.int (c : Int) t from r3)
  have I4 : Inv X pins σ H3 { s3 with heap := s3.heap.push { cls := .type "slice", data := .fields #[.int (a : Int) t1, .none, .int (c : Int) t2] } } := I3.kept (t' := s3.toks) fun b ob q => Heap.get?_push_of_some _ q
  obtain ⟨z, its, n, rr, hlen, ee⟩ := I4.lstM hl
  obtain ⟨z2, its2, n2, rr2, hlen2, ee2⟩ := I4.lstM hb
  refine wpAny_bind (wpAny_standAt (wpAny_bind (wpAny_holding ?_)))
  refine HT.setItem_step (a := a) (c := c) ee ee2 hne (Heap.IsSliceOf.new ..) (.int _ _) (.int _ _) (by omega) hc (by rw [← hlen2, ← hlen]; exact hn) (by omega) fun f hf => ?_
  have I5 := I4.lset (its' := DL.putSt a c its 0 its2) (t' := s3.toks) (f := f) hl ee hf (Vals.put 0 rr rr2) (by rw [HT.put_len]; exact z)
  exact wpAny_release ⟨σ, _, I5, q3⟩
/-- len(range(a, b, c)) -/
def tLenRg (ta : TA) : TE := fun σ H Q => ta σ H fun vs H1 => ∃ (i j c : Int) (n : Nat), vs = [.int i, .int j, .int c] ∧ c ≠ 0 ∧ c.natAbs < 1073741824 ∧ Builtin.Range.rangeSize i j c = n ∧ (n : Int) < 2 ^ 63 ∧ Q (.int n) H1
theorem pe_lenRg (hg : Gl X "len") (hm : X.mg "len" = none) (hg2 : Gl X "range") (hm2 : X.mg "range" = none) (ha : PA X [a, b, c] ta)
    (hs : starEach [a, b, c] X.env = (false, eval a X.env) :: starEach [b, c] X.env := by rfl) (hpl : (backTo pos2 (starEach [b, c] X.env)).any (·.1) = false := by rfl)
    (hs1 : starEach [.Call (.Name "range" p2) [a, b, c] [] pos2] X.env = (false, eval (.Call (.Name "range" p2) [a, b, c] [] pos2) X.env) :: starEach [] X.env := by rfl) :
    PE X (.Call (.Name "len" p) [.Call (.Name "range" p2) [a, b, c] [] pos2] [] pos) (tLenRg ta) := by
  refine ⟨fun pins s σ H Q I h => ?_⟩
  refine wpAny_Call_Name_kw (ld_blt I hg hm PySem.boot_len ?_ (by decide) (by decide))
  refine PyProof.Rows.callWith_builtin1 (args_cons ?_ hs1) hs1 rfl
  refine Call_ (ld_blt I hg2 hm2 boot_range (PyProof.Rows.callWith_type1 (thn (ha.run pos2 pins s σ H _ I h) fun us s1 ⟨vs, H1, I1, r1, q1⟩ => ?_) hs hpl))
  obtain ⟨i, j, k, n, e, c0, c1, c3, cn, q⟩ := q1
  subst e
  cases r1 with
  | cons r rr =>
    cases rr with
    | cons r' rr =>
      cases rr with
      | cons r'' rr =>
        cases rr
        obtain ⟨t, rfl⟩ := r
        obtain ⟨t', rfl⟩ := r'
        obtain ⟨t'', rfl⟩ := r''
        refine call_range_3 c0 ?_ (.inl (PyProof.noPylong_small c1))
        refine args_nil ?_
        have I2 : Inv X pins σ H1 { s1 with heap := s1.heap.push { cls := .type "range", data := .fields #[.int i t, .int j t', .int k t''] } } := I1.kept (t' := s1.toks) fun b o e => Heap.get?_push_of_some _ e
        refine call_len_range (IsRange.new ..) c3 cn ?_
        exact ⟨V.int n, H1, I2.kept (t' := s1.toks + 1 + 1) fun b o e => e, (show RelV (V.int (n : Int)) _ from ⟨_, rfl⟩), q⟩
end
end L2
namespace DL
open PySem PySem.Spec PyProof.Rows L2
theorem RDs.put {K : PySem.W.Frag} {H : Hp} {a c : Nat} : ∀ {es : List D} {ws : List V} (k : Nat) {ds : List D} {vs : List V}, RDs K H ds vs → RDs K H es ws → RDs K H (putSt a c ds k es) (putSt a c vs k ws)
  | _, _, _, _, _, r, .nil => r
  | _, _, k, _, _, r, .cons q t => RDs.put (k + 1) (r.set q _) t
section
variable {X : Cx} {o lo st a b c : Expr} {wo wlo wst : WE} {ws : WA} {pos p p2 pos2 : Pos}
def gPutSt (wo wlo wst : WE) : WG := fun d env h Q => wo env h (fun o h1 => wlo env h1 (fun x h2 => wst env h2 (fun y h3 => ∃ (l b : Addr) (xs ys : List D) (a c : Nat), o = .ref l ∧ d = .ref b ∧ x = .int (a : Int) ∧ y = .int (c : Int) ∧
  h3 l = some (.lst xs) ∧ h3 b = some (.lst ys) ∧ l ≠ b ∧ a ≤ xs.length ∧ 1 < c ∧ ys.length = HT.cntSt a c xs.length ∧ Q env (dup h3 l (.lst (putSt a c xs 0 ys)))) fun _ _ => False) fun _ _ => False) fun _ _ => False
theorem dg_subSt (ho : DE X o wo) (hlo : DE X lo wlo) (hst : DE X st wst)
    (ha : ∀ v, assign (.Subscript o (.Slice (some lo) none (some st) p2) pos) X.env v = (do
      let ov ← holding [v] (eval o X.env)
      let iv ← holding [v, ov] (eval (.Slice (some lo) none (some st) p2) X.env)
      standAt pos
      holding [v, ov, iv] (setItem ov iv v)
      release [v, ov, iv] []) := by intro _; rfl) : DG X (.Subscript o (.Slice (some lo) none (some st) p2) pos) (gPutSt wo wlo wst) :=
  ⟨fun W ck => (pg_subSt (ho.ok W ck) (hlo.ok W ck) (hst.ok W ck) ha).imp fun v σ H Q ⟨d, env, h, Qn, rd, rs, rw_, q, kn⟩ =>
    ⟨env, h, _, _, rs, rw_, q, fun od h1 ov H1 p1 r1 ro q1 => ⟨env, h1, _, _, rs.mono p1, r1, q1, fun xd h2 xv H2 p2 r2 rx q2 => ⟨env, h2, _, _, (rs.mono p1).mono p2, r2, q2, fun yd h3 yv H3 p3 r3 ry q3 => by
      obtain ⟨l, b, xs, ys, a, c, rfl, rfl, rfl, rfl, e1, e2, hne, hac, hc, hn, q3⟩ := q3
      cases ro
      cases rd
      cases rx
      cases ry
      obtain ⟨vs, hv, rr⟩ := r3 _ _ e1
      obtain ⟨ws, hw, rr2⟩ := r3 _ _ e2
      have w : Wr (H3 l) := by rw [hv]; exact True.intro
      have pw : Pe H3 (upd H3 l (.lst (putSt a c vs 0 ws))) := Pe.wr w
      have p := ((p1.trans p2).trans p3).trans pw
      exact ⟨l, b, vs, ws, a, c, rfl, rfl, rfl, rfl, hv, hw, hne, by rw [← rr.length]; exact hac, hc, by rw [← rr.length, ← rr2.length]; exact hn,
        kn env _ σ _ p (rs.mono p) (r3.set w (show RO X.K _ l (.lst (putSt a c xs 0 ys)) from ⟨_, upd_same, (RDs.put 0 rr rr2).mono pw⟩)) q3⟩, noX⟩, noX⟩, noX⟩⟩
def wLenRg (ws : WA) : WE := fun env h Q Qx => ws env h (fun ds h1 => ∃ (i j c : Int) (n : Nat), ds = [.int i, .int j, .int c] ∧ c ≠ 0 ∧ c.natAbs < 1073741824 ∧ Builtin.Range.rangeSize i j c = n ∧ (n : Int) < 2 ^ 63 ∧ Q (.int n) h1) Qx
theorem de_lenRg (hg : Gl X "len") (hm : X.mg "len" = none) (hg2 : Gl X "range") (hm2 : X.mg "range" = none) (ha : DA X [a, b, c] ws)
    (hs : starEach [a, b, c] X.env = (false, eval a X.env) :: starEach [b, c] X.env := by rfl) (hpl : (backTo pos2 (starEach [b, c] X.env)).any (·.1) = false := by rfl)
    (hs1 : starEach [.Call (.Name "range" p2) [a, b, c] [] pos2] X.env = (false, eval (.Call (.Name "range" p2) [a, b, c] [] pos2) X.env) :: starEach [] X.env := by rfl) :
    DE X (.Call (.Name "len" p) [.Call (.Name "range" p2) [a, b, c] [] pos2] [] pos) (wLenRg ws) :=
  ⟨fun W ck => (pe_lenRg hg hm hg2 hm2 (ha.ok W ck) hs hpl hs1).imp fun σ H Q ⟨env, h, Qn, Qx, rs, rw_, q, kq, kx⟩ =>
    ⟨env, h, _, Qx, rs, rw_, q, fun ds h1 vs H1 p1 r1 rds ⟨i, j, c, n, e, c0, c1, c2, c3, q1⟩ => by
      subst e
      have := RDs.ints_inv (ns := [i, j, c]) rds
      subst this
      exact ⟨i, j, c, n, rfl, c0, c1, c2, c3, kq _ h1 _ H1 p1 r1 (.int _) q1⟩, kx⟩⟩
end
/-- range with a step over 0: its count -/
theorem rgSize {i j c n : Nat} (hc : 0 < c) (hn : n = HT.cntSt i c j) : Builtin.Range.rangeSize (i : Int) (j : Int) (c : Int) = (n : Int) := by
  unfold Builtin.Range.rangeSize
  rw [hn]
  unfold HT.cntSt
  rw [if_pos (by omega)]
  by_cases h : i < j
  · rw [if_pos (by omega), if_pos h]
    have : (j : Int) - (i : Int) - 1 = ((j - i - 1 : Nat) : Int) := by omega
    rw [this]; push_cast; rfl
  · rw [if_neg (by omega), if_neg h]; rfl
theorem put_miss {α : Type} (a c : Nat) (v : α) (i : Nat) : ∀ (m k : Nat) (xs : List α), (∀ t, k ≤ t → t < k + m → i ≠ a + c * t) → (putSt a c xs k (List.replicate m v))[i]? = xs[i]?
  | 0, k, xs, _ => rfl
  | m + 1, k, xs, h => by
    rw [List.replicate_succ]
    unfold putSt
    rw [put_miss a c v i m (k + 1) _ fun t h1 h2 => h t (by omega) (by omega), List.getElem?_set_ne fun e => h k (Nat.le_refl _) (by omega) e.symm]
theorem put_hit {α : Type} (a c : Nat) (v : α) (i : Nat) : ∀ (m k : Nat) (xs : List α), i < xs.length → (xs[i]? = some v ∨ ∃ t, k ≤ t ∧ t < k + m ∧ i = a + c * t) → (putSt a c xs k (List.replicate m v))[i]? = some v
  | 0, k, xs, _, h => by
    rcases h with h | ⟨t, h1, h2, _⟩
    · exact h
    · omega
  | m + 1, k, xs, hi, h => by
    rw [List.replicate_succ]
    unfold putSt
    refine put_hit a c v i m (k + 1) _ (by rw [List.length_set]; exact hi) ?_
    by_cases z : i = a + c * k
    · left; rw [← z, List.getElem?_set_self hi]
    · rcases h with h | ⟨t, h1, h2, h3⟩
      · left; rw [List.getElem?_set_ne fun e => z e.symm]; exact h
      · rcases Nat.lt_or_ge k t with q | q
        · exact .inr ⟨t, by omega, by omega, h3⟩
        · exact absurd (by rw [h3, show t = k by omega]) z
end DL
namespace DL
open PySem PySem.Spec PyProof.Rows L2
def LenRg (ds : List D) (h : DH) (Q : QD) : Prop := ∃ (i j c : Int) (n : Nat), ds = [.int i, .int j, .int c] ∧ c ≠ 0 ∧ c.natAbs < 1073741824 ∧ Builtin.Range.rangeSize i j c = n ∧ (n : Int) < 2 ^ 63 ∧ Q (.int n) h
theorem zELenRg {ws : WA} {env : Ev} {h : DH} {Q : QD} {Qx : QX} : wLenRg ws env h Q Qx = ws env h (fun ds h1 => LenRg ds h1 Q) Qx := rfl
theorem lenRg_i {i j c n : Nat} {h : DH} {Q : QD} (hc : 0 < c) (hc2 : c < 1073741824) (hn : n = HT.cntSt i c j) (hj : j < 9223372036854775808) (q : Q (.int (n : Nat)) h) : LenRg [.int (i : Nat), .int (j : Nat), .int (c : Nat)] h Q := by
  refine ⟨i, j, c, n, rfl, by omega, by omega, rgSize hc hn, ?_, q⟩
  have : n ≤ j := by
    rw [hn]; unfold HT.cntSt
    split
    · have := Nat.div_le_self (j - i - 1) c
      omega
    · omega
  show (n : Int) < 9223372036854775808
  omega
def PutSt (o x y d : D) (h : DH) (Q : DH → Prop) : Prop := ∃ (l b : Addr) (xs ys : List D) (a c : Nat), o = .ref l ∧ d = .ref b ∧ x = .int (a : Int) ∧ y = .int (c : Int) ∧
  h l = some (.lst xs) ∧ h b = some (.lst ys) ∧ l ≠ b ∧ a ≤ xs.length ∧ 1 < c ∧ ys.length = HT.cntSt a c xs.length ∧ Q (dup h l (.lst (putSt a c xs 0 ys)))
theorem zEPutSt {wo wlo wst : WE} {d : D} {env : Ev} {h : DH} {Q : Ev → DH → Prop} : gPutSt wo wlo wst d env h Q = wo env h (fun o h1 => wlo env h1 (fun x h2 => wst env h2 (fun y h3 => PutSt o x y d h3 fun h4 => Q env h4) fun _ _ => False) fun _ _ => False) fun _ _ => False := rfl
theorem putSt_i {l b : Addr} {xs ys : List D} {a c : Nat} {h : DH} {Q : DH → Prop} (h1 : h l = some (.lst xs)) (h2 : h b = some (.lst ys)) (hne : l ≠ b) (ha : a ≤ xs.length) (hc : 1 < c) (hn : ys.length = HT.cntSt a c xs.length)
    (q : Q (dup h l (.lst (putSt a c xs 0 ys)))) : PutSt (.ref l) (.int (a : Nat)) (.int (c : Nat)) (.ref b) h Q := ⟨l, b, xs, ys, a, c, rfl, rfl, rfl, rfl, h1, h2, hne, ha, hc, hn, q⟩
end DL
/-- the items at a, a + c, .. -/
def DL.pickSt {α : Type} (xs : List α) (a c : Nat) : List α := (List.range (HT.cntSt a c xs.length)).filterMap fun k => xs[a + c * k]?
namespace L2
open PySem PySem.Spec PyProof.Rows
theorem pick_step {its : List Value} {a c : Nat} (ha : a ≤ its.length) (hc : 1 < c) : slicePick its.toArray (some (a : Int)) none (some (c : Int)) = (DL.pickSt its a c).toArray := by
  unfold slicePick
  rw [HT.bounds_step (by simpa using ha) hc]
  dsimp only
  rw [List.size_toArray, HT.range_step hc]
  unfold DL.pickSt
  rw [List.filterMap_map]
  have e : ((fun x : Nat => its.toArray[x]?) ∘ fun k => a + c * k) = fun k => its[a + c * k]? := by funext k; simp
  rw [e]
theorem Vals.pick {a c : Nat} {xs : List V} {us : List Value} (r : Vals xs us) : Vals (DL.pickSt xs a c) (DL.pickSt us a c) := by
  unfold DL.pickSt
  rw [r.length]
  generalize List.range (HT.cntSt a c us.length) = ks
  induction ks with
  | nil => exact .nil
  | cons k ks ih =>
    rw [List.filterMap_cons, List.filterMap_cons]
    cases e : xs[a + c * k]? with
    | none => rw [r.none_of e]; exact ih
    | some x =>
      obtain ⟨u, e2, ru⟩ := r.get e
      rw [e2]; exact .cons ru ih
theorem pick_len {α : Type} (xs : List α) (a c : Nat) (hc : 0 < c) : (DL.pickSt xs a c).length ≤ xs.length := by
  unfold DL.pickSt
  refine Nat.le_trans (List.length_filterMap_le _ _) ?_
  rw [List.length_range]
  unfold HT.cntSt
  split
  · have := Nat.div_le_self (xs.length - a - 1) c
    omega
  · omega
section
variable {X : Cx} {e lo st : Expr} {te tlo tst : TE} {pos p2 : Pos}
/-- xs[lo::st] of a list -/
def tSlSt (K : PySem.W.Frag) (te tlo tst : TE) : TE := fun σ H Q => te σ H fun x H1 => tlo σ H1 fun y H2 => tst σ H2 fun z H3 => ∃ (l : Addr) (xs : List V) (a c : Nat), x = .ref l ∧ y = .int (a : Int) ∧ z = .int (c : Int) ∧ SqL K H3 l xs ∧ a ≤ xs.length ∧ 1 < c ∧
  ∀ p, H3 p = none → Q (.ref p) (upd H3 p (.lst (DL.pickSt xs a c)))
theorem pe_sliceSt (he : PE X e te) (hlo : PE X lo tlo) (hst : PE X st tst) : PE X (.Subscript e (.Slice (some lo) none (some st) p2) pos) (tSlSt X.K te tlo tst) := by
  refine ⟨fun pins s σ H Q I h => ?_⟩
  refine Subscript_ (thn (he.run pins s σ H _ I h) fun v s1 ⟨x, H1, I1, r1, q1⟩ => ?_)
  refine wpAny_Slice ?_
  rw [evalPart_some]
  refine thn (hlo.run pins s1 σ H1 _ I1 q1) fun vl s2 ⟨y, H2, I2, r2, q2⟩ => ?_
  rw [evalPart_none]
  refine wpAny_pure ?_
  rw [evalPart_some]
  refine thn (hst.run pins s2 σ H2 _ I2 q2) fun vc s3 ⟨z, H3, I3, r3, q3⟩ => ?_
  obtain ⟨l, xs, a, c, ex, ey, ez, hl, hac, hc, q3⟩ := q3
  subst ex; subst ey; subst ez
  cases r1
  obtain ⟨t1, rfl⟩ := (show ∃ t, vl = Value.int (a : Int) t from r2)
  obtain ⟨t2, rfl⟩ := (show ∃ t, vc = Value.int (c : Int) t from r3)
  have I4 : Inv X pins σ H3 { s3 with heap := s3.heap.push { cls := .type "slice", data := .fields #[.int (a : Int) t1, .none, .int (c : Int) t2] } } := I3.kept (t' := s3.toks) fun b ob q => Heap.get?_push_of_some _ q
  obtain ⟨its, r, ht, hz⟩ := I4.list hl
  have hlen := r.length
  show wpAny (model X.prog X.w) X.A (subscriptTail e (.Slice (some lo) none (some st) p2) (.ref l) (.ref s3.heap.objs.size)) (EP X pins σ Q) X.xe { s3 with heap := s3.heap.push { cls := .type "slice", data := .fields #[.int (a : Int) t1, .none, .int (c : Int) t2] } }
  refine tail_any (ops := [.ref l, .ref s3.heap.objs.size]) ht.isList.typeIs slot_list_getitem.lookup ?_ (by with_unfolding_all rfl)
  refine wpAny_getItem_list_slice ht.isList (Heap.IsSliceOf.new ..) (.int _ _) .none (.int _ _) (by simp; omega) ?_ (by rw [List.size_toArray]; omega)
  rw [pick_step (by omega) hc]
  refine ⟨.ref _, _, I4.laid (t' := s3.toks) (o := .lst (DL.pickSt xs a c)) (fun b ob q => Heap.get?_push_of_some _ q) (Nat.le_refl _) ?_, rfl, q3 _ (I4.hok.fresh (Nat.le_refl _))⟩
  exact ⟨Nat.le_trans (pick_len xs a c (by omega)) hz, _, 0, r.pick, Heap.get?_push_size _ rfl⟩
end
end L2
namespace DL
open PySem PySem.Spec PyProof.Rows L2
theorem RDs.pick {K : PySem.W.Frag} {H : Hp} {a c : Nat} {ds : List D} {vs : List V} (r : RDs K H ds vs) : RDs K H (pickSt ds a c) (pickSt vs a c) := by
  unfold pickSt
  have hl := r.length
  rw [hl]
  generalize List.range (HT.cntSt a c vs.length) = ks
  induction ks with
  | nil => exact .nil
  | cons k ks ih =>
    rw [List.filterMap_cons, List.filterMap_cons]
    cases e : ds[a + c * k]? with
    | none =>
      have : vs[a + c * k]? = none := by rw [List.getElem?_eq_none_iff] at e ⊢; omega
      rw [this]; exact ih
    | some x =>
      obtain ⟨u, e2, ru⟩ := r.get e
      rw [e2]; exact .cons ru ih
section
variable {X : Cx} {e lo st : Expr} {we wlo wst : WE} {pos p2 : Pos}
def SlSt (x y z : D) (h : DH) (Q : QD) : Prop := ∃ (l : Addr) (xs : List D) (a c : Nat), x = .ref l ∧ y = .int (a : Int) ∧ z = .int (c : Int) ∧ h l = some (.lst xs) ∧ a ≤ xs.length ∧ 1 < c ∧ NewL h (pickSt xs a c) Q
def wSlSt (we wlo wst : WE) : WE := fun env h Q Qx => we env h (fun x h1 => wlo env h1 (fun y h2 => wst env h2 (fun z h3 => SlSt x y z h3 Q) Qx) Qx) Qx
theorem de_slSt (he : DE X e we) (hlo : DE X lo wlo) (hst : DE X st wst) : DE X (.Subscript e (.Slice (some lo) none (some st) p2) pos) (wSlSt we wlo wst) :=
  ⟨fun W ck => (pe_sliceSt (he.ok W ck) (hlo.ok W ck) (hst.ok W ck)).imp fun σ H Q ⟨env, h, Qn, Qx, rs, rw_, q, kq, kx⟩ =>
    ⟨env, h, _, Qx, rs, rw_, q, fun od h1 ov H1 p1 r1 ro q1 => ⟨env, h1, _, Qx, rs.mono p1, r1, q1, fun xd h2 xv H2 p2 r2 rx q2 => ⟨env, h2, _, Qx, (rs.mono p1).mono p2, r2, q2, fun yd h3 yv H3 p3 r3 ry q3 => by
      obtain ⟨l, xs, a, c, rfl, rfl, rfl, e1, hac, hc, q3⟩ := q3
      cases ro
      cases rx
      cases ry
      obtain ⟨vs, hv, rr⟩ := r3 _ _ e1
      exact ⟨l, vs, a, c, rfl, rfl, rfl, SqL.of hv, by rw [← rr.length]; exact hac, hc, fun p hp => newL_ok (p1.trans (p2.trans p3)) r3 rr.pick q3 kq hp⟩, (kx.mono p1).mono p2⟩, kx.mono p1⟩, kx⟩⟩
theorem zESlSt {env : Ev} {h : DH} {Q : QD} {Qx : QX} : wSlSt we wlo wst env h Q Qx = we env h (fun x h1 => wlo env h1 (fun y h2 => wst env h2 (fun z h3 => SlSt x y z h3 Q) Qx) Qx) Qx := rfl
theorem slSt_i {l : Addr} {xs : List D} {a c : Nat} {h : DH} {Q : QD} (e : h l = some (.lst xs)) (ha : a ≤ xs.length) (hc : 1 < c) (q : NewL h (pickSt xs a c) Q) : SlSt (.ref l) (.int (a : Nat)) (.int (c : Nat)) h Q := ⟨l, xs, a, c, rfl, rfl, rfl, e, ha, hc, q⟩
end
end DL
namespace DL
open PySem PySem.Spec PyProof.Rows L2
/-! ### dict comprehensions over pairs -/
section
variable {X : Cx} {kx vx iter : Expr} {ifs : List Expr} {scope : Scope} {x z : Str} {pos pp pz pt : Pos} {kk : Nat} {wi : WI} {wt : WT} {wk wv : WE} {i j : Nat}
def dcP (p : Addr) (gd : DH → Prop) (i j : Nat) (wt : WT) (wk wv : WE) (env : Ev) (Q : DH → Prop) : List D → DH → Prop
  | [], h => Q h
  | d :: xs, h => ∃ x y, unO d = .tup [x, y] ∧ wt ((env.set i (some x)).set j (some y)) h (fun b h2 => if b = true then wk ((env.set i (some x)).set j (some y)) h2 (fun y1 h3 => wv ((env.set i (some x)).set j (some y)) h3 (fun z1 h4 =>
      ∃ k kvs, keyD y1 = some k ∧ h4 p = some (.dK kvs) ∧ kvs.length < sizeLine ∧ gd (dup h4 p (.dK (putK2 kvs k z1))) ∧ dcP p gd i j wt wk wv env Q xs (dup h4 p (.dK (putK2 kvs k z1)))) (fun _ _ => False)) (fun _ _ => False)
      else gd h2 ∧ dcP p gd i j wt wk wv env Q xs h2) (fun _ _ => False)
def DcP (i j : Nat) (wt : WT) (wk wv : WE) (env : Ev) (Q : QD) (s : Src) (h1 : DH) : Prop := ∀ p, h1 p = none → s.gd (dup h1 p (.dK [])) ∧ dcP p s.gd i j wt wk wv env (fun h2 => Q (.ref p) h2) s.xs (dup h1 p (.dK []))
def wDcP (wi : WI) (i j : Nat) (wt : WT) (wk wv : WE) : WE := fun env h Q Qx => wi env h (fun s h1 => DcP i j wt wk wv env Q s h1) Qx
theorem dcP_imp {K : PySem.W.Frag} {W : WX} {σ : L2.St} {H : Hp} {Q : VK} (hij : i ≠ j) (h : tE K W (wDcP wi i j wt wk wv) σ H Q) :
    tDc (tI K W wi) (gTup K 2 (gCons (gName i) (gCons (gName j) gNil))) (tT K (fun _ _ _ _ => False) wt) (tE K (fun _ _ _ _ => False) wk) (tE K (fun _ _ _ _ => False) wv) [i, j] σ H Q := by
  obtain ⟨env, h, Qn, Qx, rs, rw_, q, kq, kx⟩ := h
  refine ⟨env, h, _, Qx, rs, rw_, q, fun s h1 J H1 p1 r1 it q1 => fun p hp => ?_, kx⟩
  obtain ⟨gd1, q2⟩ := q1 p (r1.fresh hp)
  have pn : Pe H1 (upd H1 p (.dK [])) := Pe.new hp
  refine ⟨fun k m H' => m = s.xs.length - k ∧ k ≤ s.xs.length ∧ ∃ h', Pe (upd H1 p (.dK [])) H' ∧ RW K h' H' ∧ s.gd h' ∧ dcP p s.gd i j wt wk wv env (fun h2 => Qn (.ref p) h2) (s.xs.drop k) h',
    ⟨s.xs.length, by simp, Nat.zero_le _, _, .refl _, r1.new hp (show RO K _ p (.dK []) from ⟨[], upd_same, rfl, .nil⟩), gd1, by simpa using q2⟩, ?_⟩
  rintro k m H2 ⟨rfl, hle, h2, p2, r2, gd2, q3⟩
  have pp := pn.trans p2
  by_cases hlt : k < s.xs.length
  · have hx : s.xs[k]? = some s.xs[k] := List.getElem?_eq_getElem hlt
    obtain ⟨go, yl⟩ := (it k H2 h2 pp r2 gd2).1 _ hx
    rw [List.drop_eq_getElem_cons hlt] at q3
    obtain ⟨dx, dy, ed, q3⟩ := q3
    refine .inr ⟨go, fun H' => ∃ h', Pe (upd H1 p (.dK [])) H' ∧ RW K h' H' ∧ s.gd h' ∧ dcP p s.gd i j wt wk wv env (fun h2 => Qn (.ref p) h2) (s.xs.drop (k + 1)) h', fun H' z => ⟨s.xs.length - (k + 1), by omega, rfl, hlt, z⟩, fun v H3 y => ?_⟩
    obtain ⟨p3, r3, rd3⟩ := yl v H3 y
    obtain ⟨a, vs, rfl, ta, ra⟩ := unO_inv ed rd3
    obtain ⟨v1, v2, rfl, rd1, rd2⟩ : ∃ v1 v2, vs = [v1, v2] ∧ RD K H3 dx v1 ∧ RD K H3 dy v2 := by
      cases ra with
      | cons r1 t =>
        cases t with
        | cons r2 t => cases t; exact ⟨_, _, rfl, r1, r2⟩
    refine ⟨a, [v1, v2], rfl, ta, rfl, v1, [v2], rfl, v2, [], rfl, rfl, ?_⟩
    have rs3 : RS K H3 ((env.set i (some dx)).set j (some dy)) (((wipe σ [i, j]).set i (some v1)).set j (some v2)) := by
      rw [wipe2 hij]; exact ((rs.mono (p1.trans (pp.trans p3))).set i rd1).set j rd2
    refine ⟨by rw [wipe2 hij, wipe2' hij], _, h2, _, _, rs3, r3, q3, fun b h4 H4 p4 r4 q4 => ?_, noX⟩
    cases b with
    | false =>
      rw [if_neg Bool.false_ne_true] at q4 ⊢
      exact ⟨h4, p2.trans (p3.trans p4), r4, q4.1, q4.2⟩
    | true =>
      rw [if_pos rfl] at q4 ⊢
      refine ⟨_, h4, _, _, rs3.mono p4, r4, q4, fun d h5 u H5 p5 r5 rd5 q5 => ⟨_, h5, _, _, (rs3.mono p4).mono p5, r5, q5, fun d6 h6 u6 H6 p6 r6 rd6 q6 => ?_, noX⟩, noX⟩
      obtain ⟨ky, kvs, ek, e6, hz, g6, q7⟩ := q6
      obtain ⟨vs, hv, en, rr⟩ := r6 _ _ e6
      obtain ⟨n2, r2'⟩ := put2_rel (k := ky) rd6 en rr
      have w : Wr (H6 p) := by rw [hv]; exact True.intro
      have pw : Pe H6 (upd H6 p (.dK (putK vs ky u6))) := Pe.wr w
      exact ⟨vs, ky, keyD_ok (rd5.mono p6) ek, hv, by rw [len_rel en]; exact hz, _, p2.trans (p3.trans (p4.trans (p5.trans (p6.trans pw)))), r6.set w (show RO K _ p (.dK (putK2 kvs ky d6)) from ⟨_, upd_same, n2, r2'.mono pw⟩), g6, q7⟩
  · have e : k = s.xs.length := by omega
    subst e
    rw [List.drop_length] at q3
    exact .inl ⟨(it _ H2 h2 pp r2 gd2).2 rfl, kq (.ref p) h2 (.ref p) H2 (p1.trans pp) r2 (.ref p) q3⟩
theorem de_dcP (hN : X.N.Nodup) (hi : DI X (.Tuple [.Name x pp, .Name z pz] kk pt) iter wi) (ok : BlkOk X.N X.env.scope scope [(x, i), (z, j)]) (hij : i ≠ j)
    (hg : ∀ (s : Shared) (H : Hp) (C : Addr) (cl : List (Str × Addr)) (fp : List Addr), PG (X.blk s H scope (compEnvC scope cl C X.env) fp) (.Tuple [.Name x pp, .Name z pz] kk pt) (gTup X.K 2 (gCons (gName i) (gCons (gName j) gNil))))
    (ht : ∀ (s : Shared) (H : Hp) (C : Addr) (cl : List (Str × Addr)) (fp : List Addr), DTs (X.blk s H scope (compEnvC scope cl C X.env) fp) ifs wt)
    (hk : ∀ (s : Shared) (H : Hp) (C : Addr) (cl : List (Str × Addr)) (fp : List Addr), DE (X.blk s H scope (compEnvC scope cl C X.env) fp) kx wk)
    (he : ∀ (s : Shared) (H : Hp) (C : Addr) (cl : List (Str × Addr)) (fp : List Addr), DE (X.blk s H scope (compEnvC scope cl C X.env) fp) vx wv)
    (hc : X.calm = true := by rfl) (hs : ∀ x, foldedSetIterable iter X.env x = pure x := by intro _; rfl) : DE X (.DictComp kx vx [⟨.Tuple [.Name x pp, .Name z pz] kk pt, iter, ifs, 0⟩] scope pos) (wDcP wi i j wt wk wv) :=
  ⟨fun W ck => (pe_dc (own := [(x, i), (z, j)]) hc hN (hi.ok W ck) ok hg (fun s H C cl fp => (ht s H C cl fp).ok _ cok_blk) (fun s H C cl fp => (hk s H C cl fp).ok _ cok_blk) (fun s H C cl fp => (he s H C cl fp).ok _ cok_blk) hs).imp fun σ H Q h => dcP_imp hij h⟩
theorem dcP_i {p : Addr} {gd : DH → Prop} {env : Ev} {Q : DH → Prop} {xs : List D} (J : Nat → DH → Prop) (hn : ∀ hh, J xs.length hh → Q hh)
    (hs : ∀ (k : Nat) (d : D) (hh : DH) (N : DH → Prop), xs[k]? = some d → J k hh → (∀ h', J (k + 1) h' → N h') →
      ∃ x y, unO d = .tup [x, y] ∧ wt ((env.set i (some x)).set j (some y)) hh (fun b h2 => if b = true then wk ((env.set i (some x)).set j (some y)) h2 (fun y1 h3 => wv ((env.set i (some x)).set j (some y)) h3 (fun z1 h4 =>
      ∃ k kvs, keyD y1 = some k ∧ h4 p = some (.dK kvs) ∧ kvs.length < sizeLine ∧ gd (dup h4 p (.dK (putK2 kvs k z1))) ∧ N (dup h4 p (.dK (putK2 kvs k z1)))) (fun _ _ => False)) (fun _ _ => False)
      else gd h2 ∧ N h2) (fun _ _ => False)) :
    ∀ hh, J 0 hh → dcP p gd i j wt wk wv env Q xs hh := by
  have go : ∀ (ys : List D) (k : Nat), ys = xs.drop k → k ≤ xs.length → ∀ h, J k h → dcP p gd i j wt wk wv env Q ys h := by
    intro ys
    induction ys with
    | nil =>
      intro k e hk h hJ
      have : xs.length ≤ k := by simpa using e.symm
      have z : k = xs.length := by omega
      subst z
      exact hn h hJ
    | cons y ys ih =>
      intro k e hk h hJ
      have hlt : k < xs.length := by
        rcases Nat.lt_or_ge k xs.length with q | q
        · exact q
        · rw [List.drop_eq_nil_of_le q] at e; cases e
      have e1 := List.drop_eq_getElem_cons hlt
      rw [e1] at e
      obtain ⟨e2, e3⟩ := List.cons.inj e
      have hx : xs[k]? = some y := by rw [List.getElem?_eq_getElem hlt, e2]
      exact hs k y h (fun h' => dcP p gd i j wt wk wv env Q ys h') hx hJ fun h' hJ' => ih (k + 1) e3 hlt h' hJ'
  exact fun hh hJ => go xs 0 rfl (Nat.zero_le _) hh hJ
/-- the dict of pairs, in order -/
def dictOf {κ : Type} [DecidableEq κ] (f : Nat → κ × D) : Nat → List (κ × D)
  | 0 => []
  | n + 1 => putK2 (dictOf f n) (f n).1 (f n).2
theorem dictOf_len {κ : Type} [DecidableEq κ] (f : Nat → κ × D) : ∀ n, (dictOf f n).length ≤ n
  | 0 => Nat.le_refl _
  | n + 1 => by
    have := dictOf_len f n
    unfold dictOf putK2
    split
    · rw [List.length_map]; omega
    · rw [List.length_append, List.length_singleton]; omega
theorem dictOf_new {κ : Type} [DecidableEq κ] {f : Nat → κ × D} : ∀ {n : Nat}, (∀ a b, a < n → b < n → (f a).1 = (f b).1 → a = b) → dictOf f n = (List.range n).map f
  | 0, _ => rfl
  | n + 1, hf => by
    have ih := dictOf_new (f := f) (n := n) fun a b ha hb => hf a b (by omega) (by omega)
    unfold dictOf putK2
    rw [ih, if_neg, List.range_succ, List.map_append]; rfl
    rw [List.any_eq_true]
    rintro ⟨kv, hm, hk⟩
    obtain ⟨a, ha, rfl⟩ := List.mem_map.mp hm
    have := hf a n (by have := List.mem_range.mp ha; omega) (by omega) (of_decide_eq_true hk)
    have := List.mem_range.mp ha
    omega
/-- over an enumerated list -/
theorem dcP_en {gd : DH → Prop} {env : Ev} {Q : QD} {xs : List D} {h1 : DH} (f : Nat → Key × D) (hgd : ∀ h', Sub h1 h' → gd h') (hl : xs.length < sizeLine)
    (hk : ∀ (k : Nat) (x : D) (h' : DH) (R : QD), xs[k]? = some x → Sub h1 h' → (∀ h'', Sub h' h'' → R (kD (f k).1) h'') → wk ((env.set i (some (.int (k : Nat)))).set j (some x)) h' R (fun _ _ => False))
    (hv : ∀ (k : Nat) (x : D) (h' : DH) (R : QD), xs[k]? = some x → Sub h1 h' → (∀ h'', Sub h' h'' → R (f k).2 h'') → wv ((env.set i (some (.int (k : Nat)))).set j (some x)) h' R (fun _ _ => False))
    (q : ∀ p h', h1 p = none → Sub h1 h' → h' p = some (.dK (dictOf f xs.length)) → Q (.ref p) h') : DcP i j wYes wk wv env Q ⟨enumD 0 xs, gd⟩ h1 := by
  intro p fp
  refine ⟨hgd _ (Sub.new fp), dcP_i (fun j hh => Sub h1 hh ∧ hh p = some (.dK (dictOf f j)) ∧ j ≤ xs.length) ?_ ?_ _ ⟨Sub.new fp, dup_same, Nat.zero_le _⟩⟩
  · rintro hh ⟨sb, e, _⟩
    rw [enumD_len] at e
    exact q p hh fp sb e
  · rintro k d hh N hx ⟨sb, e, hj⟩ hN
    obtain ⟨x, hx2, rfl⟩ := enumD_get hx
    rw [Nat.zero_add]
    have hj' : k < xs.length := (List.getElem?_eq_some_iff.mp hx2).1
    refine ⟨_, _, rfl, ?_⟩
    unfold wYes
    dsimp only
    rw [if_pos rfl]
    refine hk k x hh _ hx2 sb fun h2 sb2 => hv k x h2 _ hx2 (sb.trans sb2) fun h3 sb3 => ?_
    refine ⟨(f k).1, dictOf f k, ?_, sb3 _ _ (sb2 _ _ e), ?_, hgd _ (sub_dup0 ((sb.trans sb2).trans sb3) fp), hN _ ⟨sub_dup0 ((sb.trans sb2).trans sb3) fp, dup_same, hj'⟩⟩
    · cases (f k).1 <;> rfl
    · have := dictOf_len f k; omega
theorem zEDcP {env : Ev} {h : DH} {Q : QD} {Qx : QX} : wDcP wi i j wt wk wv env h Q Qx = wi env h (fun s h1 => DcP i j wt wk wv env Q s h1) Qx := rfl
end
end DL
namespace DL
open PySem PySem.Spec PyProof.Rows L2
section
variable {X : Cx} {i o : Expr} {wi wo : WE} {pos : Pos}
theorem dt_din (hu : X.A.units + 1 < cLine) (hi : DE X i wi) (ho : DE X o wo) (hm : behindInMarks .In o = false := by rfl) : DT X (.Compare i [.In] [o] pos) (wB (wDIn false wi wo)) :=
  ⟨fun W ck => (pt_cmp (pc_din hu (hi.ok W ck) (ho.ok W ck)) hm).imp fun σ H Q ⟨env, h, Qn, Qx, rs, rw_, q, kq, kx⟩ => din_ok ⟨env, h, _, Qx, rs, rw_, q, fun d h' v H' p r rd q' => by
    obtain ⟨k, rfl, q'⟩ := isB q'
    exact ⟨k, rd.bl_inv, kq k h' H' p r q'⟩, kx⟩⟩
theorem dt_dnotin (hu : X.A.units + 1 < cLine) (hi : DE X i wi) (ho : DE X o wo) (hm : behindInMarks .NotIn o = false := by rfl) : DT X (.Compare i [.NotIn] [o] pos) (wB (wDIn true wi wo)) :=
  ⟨fun W ck => (pt_cmp (pc_dnotin hu (hi.ok W ck) (ho.ok W ck)) hm).imp fun σ H Q ⟨env, h, Qn, Qx, rs, rw_, q, kq, kx⟩ => dnotin_ok ⟨env, h, _, Qx, rs, rw_, q, fun d h' v H' p r rd q' => by
    obtain ⟨k, rfl, q'⟩ := isB q'
    exact ⟨k, rd.bl_inv, kq k h' H' p r q'⟩, kx⟩⟩
end
end DL
namespace L2
open PySem PySem.Spec PyProof.Rows
/-! ### methods of tuples that the program made -/
section
variable {X : Cx} {o e : Expr} {to te : TE} {name : Str} {id : String} {apos cpos : Pos} {r : Addr → List V → V → Hp → VK → Prop}
/-- by values: the method id of the tuple at a, of the items xs, with one argument -/
def MtT (X : Cx) (id : String) (r : Addr → List V → V → Hp → VK → Prop) : Prop :=
  ∀ (pins : List (Addr × Obj)) (s : Shared) (σ : St) (H : Hp) (a : Addr) (xs : List V) (y : V) (u : Value) (Q : VK), Inv X pins σ H s → SqT X.K H a xs → RelV y u → r a xs y H Q →
    wpAny (model X.prog X.w) X.A (call (.builtin id) [.ref a, u]) (EP X pins σ Q) X.xe s
def tPM (K : PySem.W.Frag) (r : Addr → List V → V → Hp → VK → Prop) (to te : TE) : TE := fun σ H Q => to σ H fun x H1 => ∃ (a : Addr) (xs : List V), x = .ref a ∧ DL.PlT K H1 a xs ∧ tCons te tNil σ H1 fun vs H2 => ∃ y, vs = [y] ∧ SqT K H2 a xs ∧ r a xs y H2 Q
theorem plT_is {pins : List (Addr × Obj)} {σ : St} {H : Hp} {s : Shared} {a : Addr} {xs : List V} (I : Inv X pins σ H s) (h : DL.PlT X.K H a xs) : s.TypeIs (.ref a) "tuple" ∧ ∀ b, Value.ref a = .ref b → ∃ ob, s.heap.get? b = some ob ∧ ob.dict = none := by
  have ht := h.sqT
  obtain ⟨its, _, p, _⟩ := I.tuple ht
  refine ⟨p.typeIs, fun b e => ?_⟩
  cases e
  rcases h with ⟨ob, h, hd⟩ | ⟨ob, _, _, hk, _, hd, _⟩
  · exact ⟨ob, (I.hok a _ h).1, hd⟩
  · exact ⟨ob, I.kIn a ob hk, hd⟩
theorem pe_pm (slot : Slot "tuple" name id) (hty : typeOf (.builtin id) = pure (.type "method_descriptor")) (hm : MtT X id r) (ho : PE X o to) (he : PE X e te)
    (hbase : attributeBase o name X.env (eval o X.env) = eval o X.env := by rfl)
    (hfew : ((backTo cpos (starEach [e] X.env)).all (fun x => !x.1) && (backToKw cpos (keywordEach [] X.env)).all (fun x => x.1.isSome)
      && decide ([e].length + ([] : List Keyword).length + (if ([] : List Keyword).isEmpty then 0 else 1) < 30)) = true := by rfl)
    (hline : (apos.endLine == cpos.line) = true := by rfl) (hs : starEach [e] X.env = (false, eval e X.env) :: starEach [] X.env := by rfl) (hpl : (backTo cpos (starEach [] X.env)).any (·.1) = false := by rfl) :
    PE X (.Call (.Attribute o name apos) [e] [] cpos) (tPM X.K r to te) := by
  refine ⟨fun pins s σ H Q I h => ?_⟩
  refine wpAny_Call_method_late hbase hfew hline rfl (thn (ho.run pins s σ H _ I h) fun v s1 ⟨x, H1, I1, r1, a, xs, ex, hp, q1⟩ => ?_)
  subst ex
  cases r1
  obtain ⟨h1, h2⟩ := plT_is I1 hp
  refine ⟨"tuple", id, PySem.F.plainAttrs_tuple, slot, hty, h1, h2, ?_⟩
  have hA := (pa_cons he pa_nil hs).run cpos pins s1 σ H1 _ I1 q1
  rw [hs] at hA ⊢
  refine Calls.callWith_builtin (by show (false || (backTo cpos (starEach [] X.env)).any (·.1)) = false; rw [hpl]; rfl) (Calls.evalArgs_plain ?_)
  refine thn hA fun us s2 ⟨vs, H2, I2, r2, y, ev, q2, q3⟩ => ?_
  subst ev
  obtain ⟨u, rfl, ru⟩ := Vals.one r2
  exact hm pins s2 σ H2 a xs y u Q I2 q2 ru q3
end
def isI (k : Int) : Value → Bool
  | .int i _ => i == k
  | _ => false
theorem count_isI {k : Int} : ∀ {ns : List Int} {its : List Value}, Vals (ns.map V.int) its → its.countP (isI k) = ns.countP fun i => i == k
  | [], _, .nil => rfl
  | n :: ns, _, .cons ⟨t, e⟩ q => by
    subst e
    rw [List.countP_cons, List.countP_cons, count_isI q]; rfl
theorem mtT_count {X : Cx} : MtT X "tuple.count" (fun _ xs y H Q => ∃ (ns : List Int) (k : Int), xs = ns.map V.int ∧ y = .int k ∧ Q (.int ((ns.countP fun i => i == k : Nat) : Int)) H) := by
  intro pins s σ H a xs y u Q I hx ry h
  obtain ⟨ns, k, rfl, rfl, q⟩ := h
  obtain ⟨t, rfl⟩ := ry
  obtain ⟨its, r, ⟨⟨cls, dd, data, sl⟩, ho, hc, n, hd⟩, hz⟩ := I.tuple hx
  simp only at hc hd
  subst hc hd
  refine call_meets PySem.F.slot_tuple_count ⟨_, ho, rfl⟩ PySem.F.entry_tuple_count (PySem.F.args_tuple_count_2 _ _) (PySem.SeqAt.tuple_countAt a its.toArray n dd sl (.int k t) (isI k)) ⟨ho, fun y hy => ?_, ?_⟩
  · obtain ⟨j, hj⟩ := List.mem_iff_getElem?.mp (by simpa using hy)
    obtain ⟨x, hx, rx⟩ : ∃ x, (ns.map V.int)[j]? = some x ∧ RelV x y := by
      have hl := r.length
      have : j < (ns.map V.int).length := by
        have := (List.getElem?_eq_some_iff.mp hj).1
        omega
      obtain ⟨w, hw, rw'⟩ := r.get (List.getElem?_eq_getElem this)
      rw [hj] at hw; cases hw
      exact ⟨_, List.getElem?_eq_getElem this, rw'⟩
    rw [List.getElem?_map] at hx
    obtain ⟨i, _, rfl⟩ := Option.map_eq_some_iff.mp hx
    have key := eqAt_V (A := X.A.in1) (s := s) rx (show RelV (.int k) (.int k t) from ⟨t, rfl⟩) rfl rfl
    obtain ⟨t2, rfl⟩ := rx
    exact key
  · have := count_isI (k := k) r
    show EP X pins σ Q _ _
    rw [show its.toArray.toList = its from rfl, this]
    exact ⟨.int _, H, I.tok _, ⟨_, rfl⟩, q⟩
theorem mtT_index {X : Cx} : MtT X "tuple.index" (fun _ xs y H Q => ∃ (ns : List Int) (k : Int), xs = ns.map V.int ∧ y = .int k ∧ k ∈ ns ∧ Q (.int ((ns.idxOf k : Nat) : Int)) H) := by
  intro pins s σ H a xs y u Q I hx ry h
  obtain ⟨ns, k, rfl, rfl, hk, q⟩ := h
  obtain ⟨t, rfl⟩ := ry
  obtain ⟨its, r, p, hz⟩ := I.tuple hx
  exact PySem.SeqAt.tuple_index_ints p (Vals.ints r) hk ⟨.int _, H, I.tok _, ⟨_, rfl⟩, q⟩
end L2
namespace DL
open PySem PySem.Spec PyProof.Rows L2
section
variable {X : Cx} {o e : Expr} {wo we : WE} {name : Str} {id : String} {apos cpos : Pos}
/-- t.count(k), t.index(k): of ints -/
def gCountT (xs : List D) (y : D) (Q : D → Prop) : Prop := ∃ (ns : List Int) (k : Int), xs = ns.map D.int ∧ y = .int k ∧ Q (.int ((ns.countP fun i => i == k : Nat) : Int))
def gIndexT (xs : List D) (y : D) (Q : D → Prop) : Prop := ∃ (ns : List Int) (k : Int), xs = ns.map D.int ∧ y = .int k ∧ k ∈ ns ∧ Q (.int ((ns.idxOf k : Nat) : Int))
def wMtT (g : List D → D → (D → Prop) → Prop) (wo we : WE) : WE := fun env h Q Qx => wo env h (fun d h1 => match d with
  | .tup xs => we env h1 (fun y h2 => g xs y fun v => Q v h2) Qx
  | _ => False) Qx
theorem de_mtT {g : List D → D → (D → Prop) → Prop} {r : Addr → List V → V → Hp → VK → Prop} (slot : Slot "tuple" name id) (hty : typeOf (.builtin id) = pure (.type "method_descriptor")) (hm : MtT X id r)
    (hr : ∀ (xs : List D) (y : D) (a : Addr) (vs : List V) (u : V) (h : DH) (H : Hp) (Qn : QD) (Q : VK), RDs X.K H xs vs → RD X.K H y u → RW X.K h H → g xs y (fun v => Qn v h) → KQ X.K H Qn Q → r a vs u H Q) (ho : DE X o wo) (he : DE X e we)
    (hbase : attributeBase o name X.env (eval o X.env) = eval o X.env := by rfl)
    (hfew : ((backTo cpos (starEach [e] X.env)).all (fun x => !x.1) && (backToKw cpos (keywordEach [] X.env)).all (fun x => x.1.isSome)
      && decide ([e].length + ([] : List Keyword).length + (if ([] : List Keyword).isEmpty then 0 else 1) < 30)) = true := by rfl)
    (hline : (apos.endLine == cpos.line) = true := by rfl) (hs : starEach [e] X.env = (false, eval e X.env) :: starEach [] X.env := by rfl) (hpl : (backTo cpos (starEach [] X.env)).any (·.1) = false := by rfl) :
    DE X (.Call (.Attribute o name apos) [e] [] cpos) (wMtT g wo we) :=
  ⟨fun W ck => (pe_pm slot hty hm (ho.ok W ck) (he.ok W ck) hbase hfew hline hs hpl).imp fun σ H Q ⟨env, h, Qn, Qx, rs, rw_, q, kq, kx⟩ =>
    ⟨env, h, _, Qx, rs, rw_, q, fun d h1 v H1 p1 r1 rd q1 => by
      cases d <;> try exact q1.elim
      rename_i xs
      obtain ⟨a, vs, rfl, t, ra⟩ := rd.tup_inv
      exact ⟨a, vs, rfl, t, env, h1, _, Qx, rs.mono p1, r1, q1, fun y h2 u H2 p2 r2 ry q2 => ⟨u, rfl, p2.sqT t.sqT, hr xs y a vs u h2 H2 Qn Q (ra.mono p2) ry r2 q2 (kq.mono (p1.trans p2))⟩, kx.mono p1⟩, kx⟩⟩
theorem de_countT (ho : DE X o wo) (he : DE X e we)
    (hbase : attributeBase o "count" X.env (eval o X.env) = eval o X.env := by rfl)
    (hfew : ((backTo cpos (starEach [e] X.env)).all (fun x => !x.1) && (backToKw cpos (keywordEach [] X.env)).all (fun x => x.1.isSome)
      && decide ([e].length + ([] : List Keyword).length + (if ([] : List Keyword).isEmpty then 0 else 1) < 30)) = true := by rfl)
    (hline : (apos.endLine == cpos.line) = true := by rfl) (hs : starEach [e] X.env = (false, eval e X.env) :: starEach [] X.env := by rfl) (hpl : (backTo cpos (starEach [] X.env)).any (·.1) = false := by rfl) :
    DE X (.Call (.Attribute o "count" apos) [e] [] cpos) (wMtT gCountT wo we) :=
  de_mtT PySem.F.slot_tuple_count PySem.F.type_tuple_count mtT_count (fun xs y a vs u h H Qn Q ra ry rw_ ⟨ns, k, e1, e2, q⟩ kq => by
    subst e1; subst e2
    have := ra.ints_inv
    subst this
    cases ry
    exact ⟨ns, k, rfl, rfl, kq.here rw_ (.int _) q⟩) ho he hbase hfew hline hs hpl
theorem de_indexT (ho : DE X o wo) (he : DE X e we)
    (hbase : attributeBase o "index" X.env (eval o X.env) = eval o X.env := by rfl)
    (hfew : ((backTo cpos (starEach [e] X.env)).all (fun x => !x.1) && (backToKw cpos (keywordEach [] X.env)).all (fun x => x.1.isSome)
      && decide ([e].length + ([] : List Keyword).length + (if ([] : List Keyword).isEmpty then 0 else 1) < 30)) = true := by rfl)
    (hline : (apos.endLine == cpos.line) = true := by rfl) (hs : starEach [e] X.env = (false, eval e X.env) :: starEach [] X.env := by rfl) (hpl : (backTo cpos (starEach [] X.env)).any (·.1) = false := by rfl) :
    DE X (.Call (.Attribute o "index" apos) [e] [] cpos) (wMtT gIndexT wo we) :=
  de_mtT PySem.F.slot_tuple_index PySem.F.type_tuple_index mtT_index (fun xs y a vs u h H Qn Q ra ry rw_ ⟨ns, k, e1, e2, hk, q⟩ kq => by
    subst e1; subst e2
    have := ra.ints_inv
    subst this
    cases ry
    exact ⟨ns, k, rfl, rfl, hk, kq.here rw_ (.int _) q⟩) ho he hbase hfew hline hs hpl
theorem zEMtT {g : List D → D → (D → Prop) → Prop} {env : Ev} {h : DH} {Q : QD} {Qx : QX} : wMtT g wo we env h Q Qx = wo env h (fun d h1 => match d with
  | .tup xs => we env h1 (fun y h2 => g xs y fun v => Q v h2) Qx
  | _ => False) Qx := rfl
theorem countT_i {ns : List Int} {k : Int} {Q : D → Prop} (q : Q (.int ((ns.countP fun i => i == k : Nat) : Int))) : gCountT (ns.map D.int) (.int k) Q := ⟨ns, k, rfl, rfl, q⟩
theorem indexT_i {ns : List Int} {k : Int} {Q : D → Prop} (hk : k ∈ ns) (q : Q (.int ((ns.idxOf k : Nat) : Int))) : gIndexT (ns.map D.int) (.int k) Q := ⟨ns, k, rfl, rfl, hk, q⟩
end
/-! ### range with a step over 0 -/
section
variable {X : Cx} {a b c tg : Expr} {ws : WA} {p pos : Pos}
/-- the ints i, i + c, .. -/
def uptoC (i c : Int) (n : Nat) : List D := (List.range n).map fun j : Nat => D.int (i + (j : Nat) * c)
def wRng3 (ws : WA) : WI := fun env h Q Qx => ws env h (fun ds h1 => ∃ (i j c : Nat), ds = [.int (i : Nat), .int (j : Nat), .int (c : Nat)] ∧ 0 < c ∧ c < 1073741824 ∧ i < 1073741824 ∧ j < 1073741824 ∧ Q ⟨uptoC i c (HT.cntSt i c j), fun _ => True⟩ h1) Qx
theorem uptoC_len {i c : Int} {n : Nat} : (uptoC i c n).length = n := by unfold uptoC; rw [List.length_map, List.length_range]
theorem uptoC_get {lo c : Int} {n i : Nat} {x : D} (h : (uptoC lo c n)[i]? = some x) : i < n ∧ x = .int (lo + (i : Nat) * c) := by
  unfold uptoC at h
  rw [List.getElem?_map] at h
  obtain ⟨j, hj, rfl⟩ := Option.map_eq_some_iff.mp h
  obtain ⟨h1, rfl⟩ := List.getElem?_eq_some_iff.mp hj
  rw [List.length_range] at h1
  rw [List.getElem_range]; exact ⟨h1, rfl⟩
theorem it_rngC {K : PySem.W.Frag} {H1 : Hp} {lo c : Int} {n : Nat} : ItOk K H1 ⟨uptoC lo c n, fun _ => True⟩ (Itc lo c n) := fun i H h p rw_ g => by
  refine ⟨fun x hx => ?_, fun hl => by show n ≤ i; rw [hl]; rw [uptoC_len]; exact Nat.le_refl _⟩
  obtain ⟨hi, rfl⟩ := uptoC_get hx
  refine ⟨hi, fun v' H' z => ?_⟩
  obtain ⟨rfl, rfl⟩ := z
  exact ⟨.refl _, rw_, .int _⟩
theorem di_rng3 (hg : Gl X "range") (hm : X.mg "range" = none) (ha : DA X [a, b, c] ws) (hs : starEach [a, b, c] X.env = (false, eval a X.env) :: starEach [b, c] X.env := by rfl) (hpl : (backTo pos (starEach [b, c] X.env)).any (·.1) = false := by rfl) :
    DI X tg (.Call (.Name "range" p) [a, b, c] [] pos) (wRng3 ws) :=
  ⟨fun W ck => (pi_range3 hg hm (ha.ok W ck) hs hpl).imp fun σ H R ⟨env, h, Qn, Qx, rs, rw_, q, kr, kx⟩ =>
    ⟨env, h, _, Qx, rs, rw_, q, fun ds h1 vs H1 p1 r1 rds ⟨i, j, c, e, c0, c1, i1, j1, q1⟩ => by
      subst e
      have := RDs.ints_inv (ns := [(i : Int), (j : Int), (c : Int)]) rds
      subst this
      refine ⟨i, j, c, HT.cntSt i c j, rfl, ⟨by omega, by omega, ?_, rgSize c0 rfl⟩, kr _ h1 _ H1 p1 r1 it_rngC q1⟩
      have := rgSize (i := i) (j := j) c0 rfl
      have cl : HT.cntSt i c j ≤ j := by
        unfold HT.cntSt
        split
        · have := Nat.div_le_self (j - i - 1) c
          omega
        · omega
      unfold Builtin.Range.small
      rw [this]
      rw [if_pos (by omega)]
      have fit : ∀ z : Int, 0 ≤ z → z < 9223372036854775808 → Builtin.Range.rangeFitsLong z = true := fun z h0 h1 => by
        unfold Builtin.Range.rangeFitsLong
        rw [Bool.and_eq_true, decide_eq_true_eq, decide_eq_true_eq]
        exact ⟨by show -9223372036854775808 ≤ z; omega, h1⟩
      rw [fit _ (by omega) (by omega), fit _ (by omega) (by omega), fit _ (by omega) (by omega), fit _ (by omega) (by omega), fit _ (by omega) (by omega)]
      simp, kx⟩⟩
def Rng3 (ds : List D) (h : DH) (Q : Src → DH → Prop) : Prop := ∃ (i j c : Nat), ds = [.int (i : Nat), .int (j : Nat), .int (c : Nat)] ∧ 0 < c ∧ c < 1073741824 ∧ i < 1073741824 ∧ j < 1073741824 ∧ Q ⟨uptoC i c (HT.cntSt i c j), fun _ => True⟩ h
theorem zERng3 {env : Ev} {h : DH} {Qx : QX} {QI : Src → DH → Prop} : wRng3 ws env h QI Qx = ws env h (fun ds h1 => Rng3 ds h1 QI) Qx := rfl
theorem rng3_0 {j c : Nat} {h : DH} {Q : Src → DH → Prop} (c0 : 0 < c) (c1 : c < 1073741824) (j1 : j < 1073741824) (q : Q ⟨uptoC 0 c (HT.cntSt 0 c j), fun _ => True⟩ h) : Rng3 [.int 0, .int (j : Nat), .int (c : Nat)] h Q := ⟨0, j, c, rfl, c0, c1, by decide, j1, q⟩
end
end DL
namespace DL
open PySem PySem.Spec PyProof.Rows L2
/-! ### divmod -/
section
variable {X : Cx}
theorem call_divmodF : CallR X (.builtin "divmod") (fun xs H Q => ∃ i j, xs = [.int i, .int j] ∧ CDiv i j ∧ NewT H Q [.int (i / j), .int (i % j)]) := by
  intro pins s σ H xs us Q I r h
  obtain ⟨i, j, rfl, ⟨h1, h2⟩, q⟩ := h
  obtain ⟨u, w', rfl, ⟨t, rfl⟩, ⟨t', rfl⟩⟩ := vals2 r
  refine divmod_int (by omega) ?_ (.inl (PyProof.noPylong_small (by omega)))
  rw [Int.fdiv_eq_ediv_of_nonneg i (by omega), Int.fmod_eq_emod_of_nonneg i (by omega)]
  exact I.tnew (xs := [.int (i / j), .int (i % j)]) (its := [.int (i / j) s.toks, .int (i % j) (s.toks + 1)]) (by simp only [List.length_cons, List.length_nil]; rw [sizeLine_eq]; decide) (.cons ⟨_, rfl⟩ (.cons ⟨_, rfl⟩ .nil)) q
def gDivmod : GC := fun xs h Q => match xs with
  | [.int i, .int j] => 0 < j ∧ j < 1073741824 ∧ Q (.tup [.int (i / j), .int (i % j)]) h
  | _ => False
theorem c_divmod : OpC X (.builtin "divmod") gDivmod := by
  refine ⟨_, call_divmodF, ?_⟩
  intro xs h Qn H vs Q rds rw_ q kq
  unfold gDivmod at q
  split at q
  · rename_i i j
    cases rds with
    | cons rd t =>
      cases t with
      | cons rd2 t2 =>
        cases t2; cases rd; cases rd2
        exact ⟨i, j, rfl, ⟨q.1, q.2.1⟩, newT_ok (.refl H) rw_ (.cons (.int _) (.cons (.int _) .nil)) q.2.2 kq⟩
  · exact q.elim
theorem zEDivmod {i j : Int} {h : DH} {Q : QD} : gDivmod [.int i, .int j] h Q = (0 < j ∧ j < 1073741824 ∧ Q (.tup [.int (i / j), .int (i % j)]) h) := rfl
end
/-! ### loops over reversed(list or tuple) -/
section
variable {X : Cx} {tg e : Expr} {we : WE} {p pos : Pos}
theorem rev_get {α : Type} {xs : List α} {i : Nat} {x : α} (h : xs.reverse[i]? = some x) : i < xs.length ∧ xs[xs.length - 1 - i]? = some x := by
  have hi := (List.getElem?_eq_some_iff.mp h).1
  rw [List.length_reverse] at hi
  rw [List.getElem?_reverse hi] at h
  exact ⟨hi, h⟩
theorem it_rev {K : PySem.W.Frag} {H1 : Hp} {a : Addr} {xs : List D} {n : Nat} {gd : DH → Prop} (hn : n = xs.length) (at_ : ∀ H h, Pe H1 H → RW K h H → gd h → ∃ vs, SqL K H a vs ∧ RDs K H xs vs) : ItOk K H1 ⟨xs.reverse, gd⟩ (Itv K a n) := fun i H h p rw_ g => by
  subst hn
  obtain ⟨vs, s, r⟩ := at_ H h p rw_ g
  have hl := r.length
  refine ⟨fun x hx => ?_, fun e => by have e : i = xs.reverse.length := e; rw [List.length_reverse] at e; exact Nat.le_of_eq e.symm⟩
  obtain ⟨hi, hy⟩ := rev_get hx
  obtain ⟨v, hv, rd⟩ := r.get hy
  refine ⟨⟨hi, vs, v, s, hv⟩, fun v' H' z => ?_⟩
  obtain ⟨rfl, z⟩ := z
  have z2 := z vs s
  rw [hv] at z2
  cases z2
  exact ⟨.refl _, rw_, rd⟩
theorem it_revT {K : PySem.W.Frag} {H1 : Hp} {a : Addr} {xs : List D} {n : Nat} {gd : DH → Prop} (hn : n = xs.length) (at_ : ∀ H h, Pe H1 H → RW K h H → gd h → ∃ vs, SqT K H a vs ∧ RDs K H xs vs) : ItOk K H1 ⟨xs.reverse, gd⟩ (RT.ItvT K a n) := fun i H h p rw_ g => by
  subst hn
  obtain ⟨vs, s, r⟩ := at_ H h p rw_ g
  have hl := r.length
  refine ⟨fun x hx => ?_, fun e => by have e : i = xs.reverse.length := e; rw [List.length_reverse] at e; exact Nat.le_of_eq e.symm⟩
  obtain ⟨hi, hy⟩ := rev_get hx
  obtain ⟨v, hv, rd⟩ := r.get hy
  refine ⟨⟨hi, vs, v, s, hv⟩, fun v' H' z => ?_⟩
  obtain ⟨rfl, z⟩ := z
  have z2 := z vs s
  rw [hv] at z2
  cases z2
  exact ⟨.refl _, rw_, rd⟩
def wRevA (we : WE) : WI := fun env h Q Qx => we env h (fun d h1 => srcQ h1 d fun s => Q ⟨s.xs.reverse, s.gd⟩ h1) Qx
theorem di_revA (hg : Gl X "reversed") (hm : X.mg "reversed" = none) (he : DE X e we) (hs : starEach [e] X.env = (false, eval e X.env) :: starEach [] X.env := by rfl) : DI X tg (.Call (.Name "reversed" p) [e] [] pos) (wRevA we) :=
  ⟨fun W ck => (RT.pi_revA hg hm (he.ok W ck) hs).imp fun σ H R ⟨env, h, Qn, Qx, rs, rw_, q, kr, kx⟩ =>
    ⟨env, h, _, Qx, rs, rw_, q, fun d h1 v H1 p1 r1 rd q1 => by
      cases d with
      | tup xs =>
        obtain ⟨a, vs, rfl, t, r⟩ := rd.tup_inv
        exact ⟨a, vs, rfl, .inr ⟨t.sqT, kr _ h1 _ H1 p1 r1 (it_revT r.length.symm fun H h p rw_ _ => ⟨vs, p.sqT t.sqT, r.mono p⟩) q1⟩⟩
      | sl xs =>
        obtain ⟨a, vs, rfl, t, r⟩ := rd.sl_inv
        exact ⟨a, vs, rfl, .inl ⟨t.seq, kr _ h1 _ H1 p1 r1 (it_rev r.length.symm fun H h p rw_ _ => ⟨vs, (p.stL t).seq, r.mono p⟩) q1⟩⟩
      | ref a =>
        have ev : v = .ref a := rd.ref_inv
        subst ev
        unfold srcQ at q1
        dsimp only at q1
        split at q1
        · rename_i xs e1
          obtain ⟨vs, hv, r⟩ := r1 _ _ e1
          exact ⟨a, vs, rfl, .inl ⟨SqL.of hv, kr _ h1 _ H1 p1 r1 (it_rev r.length.symm fun H h p rw_ g => by
            obtain ⟨vs', hv', r'⟩ := rw_ _ _ g
            exact ⟨vs', SqL.of hv', r'⟩) q1⟩⟩
        · exact q1.elim
      | _ => exact q1.elim, kx⟩⟩
theorem zERevA {env : Ev} {h : DH} {Qx : QX} {QI : Src → DH → Prop} : wRevA we env h QI Qx = we env h (fun d h1 => srcQ h1 d fun s => QI ⟨s.xs.reverse, s.gd⟩ h1) Qx := rfl
end
end DL
/-! ### t[::c] of a tuple -/
namespace DL
open PySem PySem.Spec PyProof.Rows L2
theorem step_adjust {c n : Nat} : Builtin.Slice.sliceAdjust none none (c : Int) (n : Int) = (0, (n : Int)) := by
  unfold Builtin.Slice.sliceAdjust
  dsimp only
  simp only [if_neg (show ¬ (c : Int) < 0 by omega)]
theorem step_places {c n : Nat} (hc : 0 < c) : Builtin.Slice.slicePlaces 0 (n : Int) (c : Int) = HT.cntSt 0 c n := by
  unfold Builtin.Slice.slicePlaces HT.cntSt
  rw [if_pos (by omega)]
  by_cases h : 0 < n
  · rw [if_pos (by omega), if_pos h]
    have e : (n : Int) - 0 - 1 = ((n - 0 - 1 : Nat) : Int) := by omega
    rw [e, ← Int.natCast_ediv]
    generalize (n - 0 - 1) / c = d
    omega
  · rw [if_neg (by omega), if_neg h]; rfl
theorem step_pick {xs : List Value} {c : Nat} : ((List.range (HT.cntSt 0 c xs.length)).filterMap fun (k : Nat) => xs.toArray[((0 : Int) + (k : Int) * (c : Int)).toNat]?) = pickSt xs 0 c := by
  unfold pickSt
  congr 1
  funext k
  have e : ((0 : Int) + (k : Int) * (c : Int)).toNat = 0 + c * k := by
    rw [Int.zero_add, ← Int.natCast_mul, Int.toNat_natCast, Nat.zero_add, Nat.mul_comm]
  rw [e]
  simp
section
variable {prog : Program} {w : World} {A : Around} {E : Value → Shared → Prop} {s : Shared}
theorem applied_step {sl : Addr} {vl vu vs : Value} {n c : Nat} {Q : Int × Int × Nat → Shared → Prop} (hc : 0 < c) (hs : s.heap.IsSliceOf sl vl vu vs) (pl : IsPart vl none) (pu : IsPart vu none) (ps : IsPart vs (some (c : Int)))
    (h : Q (0, (c : Int), HT.cntSt 0 c n) s) : wpAny (model prog w) A (Builtin.Slice.sliceApplied (.ref sl) (pure (n : Int))) Q E s := by
  obtain ⟨os, hos, hcs, hds⟩ := hs
  unfold Builtin.Slice.sliceApplied Builtin.Slice.sliceFields
  refine wpAny_bind (wpAny_bind (wpAny_field hos hds (x := vl) rfl (wpAny_bind (wpAny_field hos hds (x := vu) rfl (wpAny_bind (wpAny_field hos hds (x := vs) rfl (wpAny_pure (wpAny_bind (HT.slicePart_ ps ?_)))))))))
  show wpAny _ _ (if ((c : Int) == 0) = true then _ else _) _ _ s
  rw [if_neg (by rw [beq_iff_eq]; omega)]
  refine wpAny_bind (HT.slicePart_ pl (wpAny_bind (HT.slicePart_ pu (wpAny_bind (wpAny_pure ?_)))))
  show wpAny _ _ (match Builtin.Slice.sliceAdjust none none (c : Int) (n : Int) with | (lo, hi) => pure (lo, (c : Int), Builtin.Slice.slicePlaces lo hi (c : Int))) _ _ s
  rw [step_adjust]
  show wpAny _ _ (pure ((0 : Int), (c : Int), Builtin.Slice.slicePlaces 0 (n : Int) (c : Int))) _ _ s
  rw [step_places hc]; exact wpAny_pure h
theorem tuple_step {t sl : Addr} {items : Array Value} {vl vu vs : Value} {c : Nat} {Q : Value → Shared → Prop} (hc : 1 < c) (ht : IsTup s.heap t items) (hs : s.heap.IsSliceOf sl vl vu vs) (pl : IsPart vl none) (pu : IsPart vu none) (ps : IsPart vs (some (c : Int)))
    (h : Q (.ref s.heap.objs.size) { s with heap := s.heap.push { cls := .type "tuple", data := .seq (pickSt items.toList 0 c).toArray } }) (hsz : items.size ≤ sizeLine) : wpAny (model prog w) A (getItem (.ref t) (.ref sl)) Q E s := by
  have hk : sizeOk (.seq (pickSt items.toList 0 c).toArray) := by
    show (pickSt items.toList 0 c).toArray.size ≤ sizeLine
    have := pick_len items.toList 0 c (by omega)
    rw [List.size_toArray]
    simp at this
    omega
  obtain ⟨os, hos, hcs, hds⟩ := id hs
  have hTs : s.TypeIs (.ref sl) "slice" := ⟨os, hos, hcs⟩
  unfold getItem
  first
    | refine wpAny_bind (wpAny_sequenceKey ht.typeIs (by decide) ?_)
    | refine wpAny_holding (wpAny_bind (wpAny_sequenceKey ht.typeIs (by decide) ?_))
    | refine wpAny_bind (wpAny_pure (wpAny_bind (wpAny_sequenceKey ht.typeIs (by decide) ?_)))
  refine wpAny_bind (wpAny_callSpecial?_slot (name := Str.ofString "__getitem__") ht.typeIs PyProof.Rows.slot_tuple_getitem (wpAny_call_entry PyProof.Rows.slot_tuple_getitem ht.typeIs entry_tuple_getitem ?_ (args_tuple_getitem _ _)))
  show wpAny _ _ (Builtin.Tuple.tupleItemsOf (.ref t) >>= _) _ _ s
  refine wpAny_bind (tupleItemsOf_ ht (wpAny_bind (wpAny_typeOf hTs ?_)))
  rw [if_pos (by decide)]
  refine wpAny_bind (applied_step (n := items.size) (by omega) hs pl pu ps ?_)
  have hc1 : ((c : Int) == 1) = false := by rw [beq_eq_false_iff_ne]; omega
  have hno : ¬ (((0 : Int) == 0 && (c : Int) == 1 && HT.cntSt 0 c items.size == items.size) = true) := by
    rw [hc1, Bool.and_false, Bool.false_and]; exact Bool.false_ne_true
  show wpAny _ _ (if ((0 : Int) == 0 && (c : Int) == 1 && HT.cntSt 0 c items.size == items.size) = true then _ else _) _ _ s
  obtain ⟨its⟩ := items
  have sp := step_pick (xs := its) (c := c)
  rw [if_neg hno]
  rw [show (Array.mk its).size = its.length from rfl]
  rw [sp]
  first
    | exact wpAny_bind (m := Builtin.Tuple.tupleExact _) (wpAny_newObj_type (wpAny_pure ⟨_, rfl, wpAny_pure h⟩) hk)
    | exact wpAny_bind (m := Builtin.Tuple.tupleExact _) (wpAny_newObj_type (wpAny_bind (wpAny_pure (wpAny_pure ⟨_, rfl, wpAny_pure h⟩))) hk)
    | exact wpAny_bind (wpAny_bind (m := Builtin.Tuple.tupleExact _) (wpAny_newObj_type (wpAny_pure (wpAny_pure ⟨_, rfl, wpAny_pure h⟩)) hk))
    | exact wpAny_bind (wpAny_bind (m := Builtin.Tuple.tupleExact _) (wpAny_newObj_type (wpAny_pure ⟨_, rfl, wpAny_pure h⟩) hk))
end
section
variable {X : Cx} {e st : Expr} {te tst : TE} {we wst : WE} {pos p2 : Pos}
def tSlStT (K : PySem.W.Frag) (te tst : TE) : TE := fun σ H Q => te σ H fun x H1 => tst σ H1 fun z H2 => ∃ (l : Addr) (xs : List V) (c : Nat), x = .ref l ∧ z = .int (c : Int) ∧ SqT K H2 l xs ∧ 1 < c ∧ NewT H2 Q (pickSt xs 0 c)
theorem pe_slStT (he : PE X e te) (hst : PE X st tst) : PE X (.Subscript e (.Slice none none (some st) p2) pos) (tSlStT X.K te tst) := by
  refine ⟨fun pins s σ H Q I h => ?_⟩
  refine Subscript_ (thn (he.run pins s σ H _ I h) fun v s1 ⟨x, H1, I1, r1, q1⟩ => ?_)
  refine wpAny_Slice ?_
  rw [evalPart_none]
  refine wpAny_pure ?_
  refine wpAny_pure ?_
  rw [evalPart_some]
  refine thn (hst.run pins s1 σ H1 _ I1 q1) fun vc s3 ⟨z, H3, I3, r3, q3⟩ => ?_
  obtain ⟨l, xs, c, ex, ez, hl, hc, q3⟩ := q3
  subst ex; subst ez
  cases r1
  obtain ⟨t2, rfl⟩ := (show ∃ t, vc = Value.int (c : Int) t from r3)
  have I4 : Inv X pins σ H3 { s3 with heap := s3.heap.push { cls := .type "slice", data := .fields #[.none, .none, .int (c : Int) t2] } } := I3.kept (t' := s3.toks) fun b ob q => Heap.get?_push_of_some _ q
  obtain ⟨its, r, ht, hz⟩ := I4.tuple hl
  have hlen := r.length
  show wpAny (model X.prog X.w) X.A (subscriptTail e (.Slice none none (some st) p2) (.ref l) (.ref s3.heap.objs.size)) (EP X pins σ Q) X.xe { s3 with heap := s3.heap.push { cls := .type "slice", data := .fields #[.none, .none, .int (c : Int) t2] } }
  refine tail_any (ops := [.ref l, .ref s3.heap.objs.size]) ht.typeIs PyProof.Rows.slot_tuple_getitem.lookup ?_ (by with_unfolding_all rfl)
  refine tuple_step hc ht (Heap.IsSliceOf.new ..) .none .none (.int _ _) ?_ (by rw [List.size_toArray]; omega)
  exact I4.tnew (t' := s3.toks) (Nat.le_trans (pick_len xs 0 c (by omega)) hz) r.pick q3
def SlStT (x z : D) (h : DH) (Q : QD) : Prop := match x, z with
  | .tup xs, .int c => 1 < c ∧ Q (.tup (pickSt xs 0 c.toNat)) h
  | _, _ => False
def wSlStT (we wst : WE) : WE := fun env h Q Qx => we env h (fun x h1 => wst env h1 (fun z h2 => SlStT x z h2 Q) Qx) Qx
theorem de_slStT (he : DE X e we) (hst : DE X st wst) : DE X (.Subscript e (.Slice none none (some st) p2) pos) (wSlStT we wst) :=
  ⟨fun W ck => (pe_slStT (he.ok W ck) (hst.ok W ck)).imp fun σ H Q ⟨env, h, Qn, Qx, rs, rw_, q, kq, kx⟩ =>
    ⟨env, h, _, Qx, rs, rw_, q, fun xd h1 xv H1 p1 r1 rx q1 => ⟨env, h1, _, Qx, rs.mono p1, r1, q1, fun zd h2 zv H2 p2 r2 rz q2 => by
      unfold SlStT at q2
      dsimp only at q2
      split at q2
      · rename_i xs c
        obtain ⟨c', rfl⟩ := Int.eq_ofNat_of_zero_le (show 0 ≤ c by omega)
        cases rz
        obtain ⟨a, vs, rfl, t, r⟩ := rx.tup_inv
        exact ⟨a, vs, c', rfl, rfl, p2.sqT t.sqT, by omega, newT_ok (p1.trans p2) r2 (r.mono p2).pick q2.2 kq⟩
      · exact q2.elim, kx.mono p1⟩, kx⟩⟩
theorem zESlStT {env : Ev} {h : DH} {Q : QD} {Qx : QX} : wSlStT we wst env h Q Qx = we env h (fun x h1 => wst env h1 (fun z h2 => SlStT x z h2 Q) Qx) Qx := rfl
theorem zSlStT {xs : List D} {c : Int} {h : DH} {Q : QD} : SlStT (.tup xs) (.int c) h Q = (1 < c ∧ Q (.tup (pickSt xs 0 c.toNat)) h) := rfl
end
end DL
namespace DL
open PySem PySem.Spec PyProof.Rows L2
/-! ### str(int), list(dict), f-strings -/
section
variable {X : Cx}
def gStrC : GC := fun xs h Q => match xs with
  | [.int i] => i.natAbs.log2 < 1920 ∧ Q (.str (toString i)) h
  | _ => False
theorem c_str : OpC X (.type "str") gStrC := by
  refine ⟨_, call_str_int, ?_⟩
  intro xs h Qn H vs Q rds rw_ q kq
  unfold gStrC at q
  split at q
  · cases rds with
    | cons rd t => cases t; cases rd; exact ⟨_, rfl, q.1, kq.here rw_ (.str _) q.2⟩
  · exact q.elim
theorem lgI {i : Int} (h0 : -1000000000000 ≤ i) (h1 : i ≤ 1000000000000) : i.natAbs.log2 < 1920 := by
  have h : i.natAbs < 2 ^ 64 := by
    have : i.natAbs ≤ 1000000000000 := by omega
    exact Nat.lt_of_le_of_lt this (by decide)
  rcases Nat.eq_zero_or_pos i.natAbs with z | z
  · rw [z]; decide
  · have := (Nat.log2_lt (by omega)).mpr h
    omega
def KeysK (h : DH) (d : D) (k : List (Key × D) → Prop) : Prop := match d with
  | .ref a => match h a with
    | some (.dK kvs) => k kvs
    | _ => False
  | _ => False
theorem KeysK.get {h : DH} {d : D} {k : List (Key × D) → Prop} (q : KeysK h d k) : ∃ a kvs, d = .ref a ∧ h a = some (.dK kvs) ∧ k kvs := by
  unfold KeysK at q
  split at q
  · split at q
    · rename_i a _ kvs e; exact ⟨_, _, rfl, e, q⟩
    · exact q.elim
  · exact q.elim
def gListK : GC := fun xs h Q => One (fun d => KeysK h d fun kvs => NewL h (kvs.map fun kv => kD kv.1) Q) xs
theorem rd_keys {K : PySem.W.Frag} {H : Hp} : ∀ {kvs : List (Key × D)} {vs : List (Key × V)}, vs.map (·.1) = kvs.map (·.1) → RDs K H (kvs.map fun kv => kD kv.1) (vs.map fun kv => kV kv.1)
  | [], [], _ => .nil
  | [], _ :: _, e => by simp at e
  | _ :: _, [], e => by simp at e
  | (a, d) :: kvs, (b, v) :: vs, e => by
    rw [List.map_cons, List.map_cons, List.cons.injEq] at e
    have e1 : b = a := e.1
    subst e1
    rw [List.map_cons, List.map_cons]
    refine .cons ?_ (rd_keys e.2)
    cases b with
    | inl i => exact .int i
    | inr x => exact .str x
theorem c_listK (hc : X.calm = true := by rfl) : OpC X (.type "list") gListK := by
  refine ⟨_, call_listD hc, ?_⟩
  intro xs h Qn H vs Q rds rw_ q kq
  obtain ⟨d, v, rfl, rfl, rd, q⟩ := one_inv rds q
  obtain ⟨a, kvs, rfl, e, q⟩ := q.get
  cases rd
  obtain ⟨us, hv, en, rr⟩ := rw_ _ _ e
  exact ⟨a, us, rfl, .inl hv, fun p hp => newL_ok (.refl H) rw_ (rd_keys en) q kq hp⟩
def FmtD (d : D) (k : Str → Prop) : Prop := match d with
  | .str y => y.length ≤ sizeLine ∧ k y
  | .int i => i.natAbs.log2 < 1920 ∧ k (toString i)
  | _ => False
def wFmt (we : WE) : WE := fun env h Q Qx => we env h (fun d h1 => FmtD d fun y => Q (.str y) h1) Qx
theorem de_fmt {e : Expr} {we : WE} {pos : Pos} (he : DE X e we) : DE X (.FormattedValue e (-1) none pos) (wFmt we) :=
  ⟨fun W ck => (pe_fmt (he.ok W ck)).imp fun σ H Q ⟨env, h, Qn, Qx, rs, rw_, q, kq, kx⟩ =>
    ⟨env, h, _, Qx, rs, rw_, q, fun d h1 v H1 p1 r1 rd q1 => by
      have q1 : FmtD d _ := q1
      unfold FmtD at q1
      split at q1
      · cases rd; exact .inl ⟨_, rfl, q1.1, kq _ _ _ _ p1 r1 (.str _) q1.2⟩
      · cases rd; exact .inr ⟨_, rfl, q1.1, kq _ _ _ _ p1 r1 (.str _) q1.2⟩
      · exact q1.elim, kx⟩⟩
def wJ : List WE → Str → Ev → DH → (Str → DH → Prop) → QX → Prop
  | [], acc, _, h, Q, _ => Q acc h
  | w :: ws, acc, env, h, Q, Qx => w env h (fun d h1 => StrK d fun y => (acc ++ y).length ≤ sizeLine ∧ wJ ws (acc ++ y) env h1 Q Qx) Qx
inductive DJ (X : Cx) : List Expr → List WE → Prop where
  | nil : DJ X [] []
  | cons {e : Expr} {w : WE} {es : List Expr} {ws : List WE} (h : DE X e w) (r : DJ X es ws) : DJ X (e :: es) (w :: ws)
theorem tJs_ok {K : PySem.W.Frag} {W : WX} {σ : L2.St} {Qx : QX} {Qn : Str → DH → Prop} {Q : Str → Hp → Prop} : ∀ (ws : List WE) (acc : Str) {env : Ev} {h : DH} {H : Hp}, RS K H env σ → RW K h H → wJ ws acc env h Qn Qx →
    (∀ out h' H', Pe H H' → RW K h' H' → Qn out h' → Q out H') → KX K H Qx W σ → tJs (ws.map (tE K W)) acc σ H Q
  | [], acc, env, h, H, rs, rw_, q, kq, kx => kq acc h H (.refl H) rw_ q
  | w :: ws, acc, env, h, H, rs, rw_, q, kq, kx => ⟨env, h, _, Qx, rs, rw_, q, fun d h1 v H1 p1 r1 rd q1 => by
      obtain ⟨y, rfl, hl, q2⟩ := q1.get
      cases rd
      exact ⟨y, rfl, hl, tJs_ok ws (acc ++ y) (rs.mono p1) r1 q2 (fun out h' H' p2 => kq out h' H' (p1.trans p2)) (kx.mono p1)⟩, kx⟩
def wJs (ws : List WE) : WE := fun env h Q Qx => wJ ws Str.empty env h (fun out h1 => Q (.str out) h1) Qx
theorem dj_ok {es : List Expr} {ws : List WE} (h : DJ X es ws) : ∀ W, Cok X W → PJ X es (ws.map (tE X.K W)) := fun W ck => by
  induction h with
  | nil => exact .nil
  | cons h r ih => exact .cons (h.ok W ck) ih
theorem de_joined {v1 v2 : Expr} {rest : List Expr} {ws : List WE} {pos : Pos} (h : DJ X (v1 :: v2 :: rest) ws) : DE X (.JoinedStr (v1 :: v2 :: rest) pos) (wJs ws) :=
  ⟨fun W ck => (pe_joined (dj_ok h W ck)).imp fun σ H Q ⟨env, h, Qn, Qx, rs, rw_, q, kq, kx⟩ =>
    tJs_ok ws Str.empty rs rw_ q (fun out h' H' p r q' => kq (.str out) h' (.str out) H' p r (.str out) q') kx⟩
theorem de_joined1 {e : Expr} {we : WE} {pos : Pos} (he : DE X e we) : DE X (.JoinedStr [e] pos) we := ⟨fun W ck => pe_joined1 (he.ok W ck)⟩
variable {env : Ev} {h : DH} {Q : QD} {Qx : QX} {we : WE} {ws : List WE}
theorem zGStrC {i : Int} : gStrC [.int i] h Q = (i.natAbs.log2 < 1920 ∧ Q (.str (toString i)) h) := rfl
theorem zEFmt : wFmt we env h Q Qx = we env h (fun d h1 => FmtD d fun y => Q (.str y) h1) Qx := rfl
theorem zFmtS {y : Str} {k : Str → Prop} : FmtD (.str y) k = (y.length ≤ sizeLine ∧ k y) := rfl
theorem zFmtI {i : Int} {k : Str → Prop} : FmtD (.int i) k = (i.natAbs.log2 < 1920 ∧ k (toString i)) := rfl
theorem zEJs : wJs ws env h Q Qx = wJ ws Str.empty env h (fun out h1 => Q (.str out) h1) Qx := rfl
theorem zJN {acc : Str} {QJ : Str → DH → Prop} : wJ [] acc env h QJ Qx = QJ acc h := rfl
theorem zJC {acc : Str} {QJ : Str → DH → Prop} : wJ (we :: ws) acc env h QJ Qx = we env h (fun d h1 => StrK d fun y => (acc ++ y).length ≤ sizeLine ∧ wJ ws (acc ++ y) env h1 QJ Qx) Qx := rfl
theorem listK_i {p : Addr} {kvs : List (Key × D)} (e : h p = some (.dK kvs)) (q : NewL h (kvs.map fun kv => kD kv.1) Q) : gListK [.ref p] h Q := by
  show KeysK h (.ref p) _
  unfold KeysK
  dsimp only
  rw [e]
  exact q
end
/-! ### dict comprehensions over single names -/
section
variable {X : Cx} {kx vx iter : Expr} {ifs : List Expr} {scope : Scope} {x : Str} {pos pp : Pos} {wi : WI} {wt : WT} {wk wv : WE} {i : Nat}
def dcS (p : Addr) (gd : DH → Prop) (i : Nat) (wt : WT) (wk wv : WE) (env : Ev) (Q : DH → Prop) : List D → DH → Prop
  | [], h => Q h
  | d :: xs, h => wt (env.set i (some d)) h (fun b h2 => if b = true then wk (env.set i (some d)) h2 (fun y1 h3 => wv (env.set i (some d)) h3 (fun z1 h4 =>
      ∃ k kvs, keyD y1 = some k ∧ h4 p = some (.dK kvs) ∧ kvs.length < sizeLine ∧ gd (dup h4 p (.dK (putK2 kvs k z1))) ∧ dcS p gd i wt wk wv env Q xs (dup h4 p (.dK (putK2 kvs k z1)))) (fun _ _ => False)) (fun _ _ => False)
      else gd h2 ∧ dcS p gd i wt wk wv env Q xs h2) (fun _ _ => False)
def DcS (i : Nat) (wt : WT) (wk wv : WE) (env : Ev) (Q : QD) (s : Src) (h1 : DH) : Prop := ∀ p, h1 p = none → s.gd (dup h1 p (.dK [])) ∧ dcS p s.gd i wt wk wv env (fun h2 => Q (.ref p) h2) s.xs (dup h1 p (.dK []))
def wDcS (wi : WI) (i : Nat) (wt : WT) (wk wv : WE) : WE := fun env h Q Qx => wi env h (fun s h1 => DcS i wt wk wv env Q s h1) Qx
theorem dcS_imp {K : PySem.W.Frag} {W : WX} {σ : L2.St} {H : Hp} {Q : VK} (h : tE K W (wDcS wi i wt wk wv) σ H Q) :
    tDc (tI K W wi) (gName i) (tT K (fun _ _ _ _ => False) wt) (tE K (fun _ _ _ _ => False) wk) (tE K (fun _ _ _ _ => False) wv) [i] σ H Q := by
  obtain ⟨env, h, Qn, Qx, rs, rw_, q, kq, kx⟩ := h
  refine ⟨env, h, _, Qx, rs, rw_, q, fun s h1 J H1 p1 r1 it q1 => fun p hp => ?_, kx⟩
  obtain ⟨gd1, q2⟩ := q1 p (r1.fresh hp)
  have pn : Pe H1 (upd H1 p (.dK [])) := Pe.new hp
  refine ⟨fun k m H' => m = s.xs.length - k ∧ k ≤ s.xs.length ∧ ∃ h', Pe (upd H1 p (.dK [])) H' ∧ RW K h' H' ∧ s.gd h' ∧ dcS p s.gd i wt wk wv env (fun h2 => Qn (.ref p) h2) (s.xs.drop k) h',
    ⟨s.xs.length, by simp, Nat.zero_le _, _, .refl _, r1.new hp (show RO K _ p (.dK []) from ⟨[], upd_same, rfl, .nil⟩), gd1, by simpa using q2⟩, ?_⟩
  rintro k m H2 ⟨rfl, hle, h2, p2, r2, gd2, q3⟩
  have pp := pn.trans p2
  by_cases hlt : k < s.xs.length
  · have hx : s.xs[k]? = some s.xs[k] := List.getElem?_eq_getElem hlt
    obtain ⟨go, yl⟩ := (it k H2 h2 pp r2 gd2).1 _ hx
    rw [List.drop_eq_getElem_cons hlt] at q3
    refine .inr ⟨go, fun H' => ∃ h', Pe (upd H1 p (.dK [])) H' ∧ RW K h' H' ∧ s.gd h' ∧ dcS p s.gd i wt wk wv env (fun h2 => Qn (.ref p) h2) (s.xs.drop (k + 1)) h', fun H' z => ⟨s.xs.length - (k + 1), by omega, rfl, hlt, z⟩, fun v H3 y => ?_⟩
    obtain ⟨p3, r3, rd3⟩ := yl v H3 y
    have ew : ((wipe σ [i]).set i (some v)) = σ.set i (some v) := by show (σ.set i none).set i (some v) = _; rw [List.set_set]
    have rs3 : RS K H3 (env.set i (some s.xs[k])) ((wipe σ [i]).set i (some v)) := by rw [ew]; exact (rs.mono (p1.trans (pp.trans p3))).set i rd3
    refine ⟨by rw [ew]; show (σ.set i (some v)).set i none = σ.set i none; rw [List.set_set], _, h2, _, _, rs3, r3, q3, fun b h4 H4 p4 r4 q4 => ?_, noX⟩
    cases b with
    | false =>
      rw [if_neg Bool.false_ne_true] at q4 ⊢
      exact ⟨h4, p2.trans (p3.trans p4), r4, q4.1, q4.2⟩
    | true =>
      rw [if_pos rfl] at q4 ⊢
      refine ⟨_, h4, _, _, rs3.mono p4, r4, q4, fun d h5 u H5 p5 r5 rd5 q5 => ⟨_, h5, _, _, (rs3.mono p4).mono p5, r5, q5, fun d6 h6 u6 H6 p6 r6 rd6 q6 => ?_, noX⟩, noX⟩
      obtain ⟨ky, kvs, ek, e6, hz, g6, q7⟩ := q6
      obtain ⟨vs, hv, en, rr⟩ := r6 _ _ e6
      obtain ⟨n2, r2'⟩ := put2_rel (k := ky) rd6 en rr
      have w : Wr (H6 p) := by rw [hv]; exact True.intro
      have pw : Pe H6 (upd H6 p (.dK (putK vs ky u6))) := Pe.wr w
      exact ⟨vs, ky, keyD_ok (rd5.mono p6) ek, hv, by rw [len_rel en]; exact hz, _, p2.trans (p3.trans (p4.trans (p5.trans (p6.trans pw)))), r6.set w (show RO K _ p (.dK (putK2 kvs ky d6)) from ⟨_, upd_same, n2, r2'.mono pw⟩), g6, q7⟩
  · have e : k = s.xs.length := by omega
    subst e
    rw [List.drop_length] at q3
    exact .inl ⟨(it _ H2 h2 pp r2 gd2).2 rfl, kq (.ref p) h2 (.ref p) H2 (p1.trans pp) r2 (.ref p) q3⟩
theorem de_dcS (hN : X.N.Nodup) (hi : DI X (.Name x pp) iter wi) (ok : BlkOk X.N X.env.scope scope [(x, i)])
    (hg : ∀ (s : Shared) (H : Hp) (C : Addr) (cl : List (Str × Addr)) (fp : List Addr), PG (X.blk s H scope (compEnvC scope cl C X.env) fp) (.Name x pp) (gName i))
    (ht : ∀ (s : Shared) (H : Hp) (C : Addr) (cl : List (Str × Addr)) (fp : List Addr), DTs (X.blk s H scope (compEnvC scope cl C X.env) fp) ifs wt)
    (hk : ∀ (s : Shared) (H : Hp) (C : Addr) (cl : List (Str × Addr)) (fp : List Addr), DE (X.blk s H scope (compEnvC scope cl C X.env) fp) kx wk)
    (he : ∀ (s : Shared) (H : Hp) (C : Addr) (cl : List (Str × Addr)) (fp : List Addr), DE (X.blk s H scope (compEnvC scope cl C X.env) fp) vx wv)
    (hc : X.calm = true := by rfl) (hs : ∀ x, foldedSetIterable iter X.env x = pure x := by intro _; rfl) : DE X (.DictComp kx vx [⟨.Name x pp, iter, ifs, 0⟩] scope pos) (wDcS wi i wt wk wv) :=
  ⟨fun W ck => (pe_dc (own := [(x, i)]) hc hN (hi.ok W ck) ok hg (fun s H C cl fp => (ht s H C cl fp).ok _ cok_blk) (fun s H C cl fp => (hk s H C cl fp).ok _ cok_blk) (fun s H C cl fp => (he s H C cl fp).ok _ cok_blk) hs).imp fun σ H Q h => dcS_imp h⟩
theorem dcS_i {p : Addr} {gd : DH → Prop} {env : Ev} {Q : DH → Prop} {xs : List D} (J : Nat → DH → Prop) (hn : ∀ hh, J xs.length hh → Q hh)
    (hs : ∀ (k : Nat) (d : D) (hh : DH) (N : DH → Prop), xs[k]? = some d → J k hh → (∀ h', J (k + 1) h' → N h') →
      wt (env.set i (some d)) hh (fun b h2 => if b = true then wk (env.set i (some d)) h2 (fun y1 h3 => wv (env.set i (some d)) h3 (fun z1 h4 =>
      ∃ k kvs, keyD y1 = some k ∧ h4 p = some (.dK kvs) ∧ kvs.length < sizeLine ∧ gd (dup h4 p (.dK (putK2 kvs k z1))) ∧ N (dup h4 p (.dK (putK2 kvs k z1)))) (fun _ _ => False)) (fun _ _ => False)
      else gd h2 ∧ N h2) (fun _ _ => False)) :
    ∀ hh, J 0 hh → dcS p gd i wt wk wv env Q xs hh := by
  have go : ∀ (ys : List D) (k : Nat), ys = xs.drop k → k ≤ xs.length → ∀ h, J k h → dcS p gd i wt wk wv env Q ys h := by
    intro ys
    induction ys with
    | nil =>
      intro k e hk h hJ
      have : xs.length ≤ k := by simpa using e.symm
      have z : k = xs.length := by omega
      subst z
      exact hn h hJ
    | cons y ys ih =>
      intro k e hk h hJ
      have hlt : k < xs.length := by
        rcases Nat.lt_or_ge k xs.length with q | q
        · exact q
        · rw [List.drop_eq_nil_of_le q] at e; cases e
      have e1 := List.drop_eq_getElem_cons hlt
      rw [e1] at e
      obtain ⟨e2, e3⟩ := List.cons.inj e
      have hx : xs[k]? = some y := by rw [List.getElem?_eq_getElem hlt, e2]
      exact hs k y h (fun h' => dcS p gd i wt wk wv env Q ys h') hx hJ fun h' hJ' => ih (k + 1) e3 hlt h' hJ'
  exact fun hh hJ => go xs 0 rfl (Nat.zero_le _) hh hJ
/-- over anything, new lists may come -/
theorem dcS_go {env : Ev} {Q : QD} {s : Src} {h1 : DH} (f : Nat → Key × D) (hgd : ∀ h', Sub h1 h' → s.gd h') (hl : s.xs.length < sizeLine)
    (hk : ∀ (k : Nat) (x : D) (h' : DH) (R : QD), s.xs[k]? = some x → Sub h1 h' → (∀ h'', Sub h' h'' → R (kD (f k).1) h'') → wk (env.set i (some x)) h' R (fun _ _ => False))
    (hv : ∀ (k : Nat) (x : D) (h' : DH) (R : QD), s.xs[k]? = some x → Sub h1 h' → (∀ h'', Sub h' h'' → R (f k).2 h'') → wv (env.set i (some x)) h' R (fun _ _ => False))
    (q : ∀ p h', h1 p = none → Sub h1 h' → h' p = some (.dK (dictOf f s.xs.length)) → Q (.ref p) h') : DcS i wYes wk wv env Q s h1 := by
  intro p fp
  refine ⟨hgd _ (Sub.new fp), dcS_i (fun j hh => Sub h1 hh ∧ hh p = some (.dK (dictOf f j)) ∧ j ≤ s.xs.length) ?_ ?_ _ ⟨Sub.new fp, dup_same, Nat.zero_le _⟩⟩
  · rintro hh ⟨sb, e, _⟩
    exact q p hh fp sb e
  · rintro k d hh N hx ⟨sb, e, hj⟩ hN
    have hj' : k < s.xs.length := (List.getElem?_eq_some_iff.mp hx).1
    unfold wYes
    dsimp only
    rw [if_pos rfl]
    refine hk k d hh _ hx sb fun h2 sb2 => hv k d h2 _ hx (sb.trans sb2) fun h3 sb3 => ?_
    refine ⟨(f k).1, dictOf f k, ?_, sb3 _ _ (sb2 _ _ e), ?_, hgd _ (sub_dup0 ((sb.trans sb2).trans sb3) fp), hN _ ⟨sub_dup0 ((sb.trans sb2).trans sb3) fp, dup_same, hj'⟩⟩
    · cases (f k).1 <;> rfl
    · have := dictOf_len f k; omega
theorem dcS_up {env : Ev} {Q : QD} {gd : DH → Prop} {h1 : DH} {lo : Int} {n : Nat} (f : Nat → Key × D) (hgd : ∀ h', Sub h1 h' → gd h') (hl : n < sizeLine)
    (hk : ∀ (k : Nat) (h' : DH) (R : QD), k < n → Sub h1 h' → (∀ h'', Sub h' h'' → R (kD (f k).1) h'') → wk (env.set i (some (.int (lo + (k : Nat))))) h' R (fun _ _ => False))
    (hv : ∀ (k : Nat) (h' : DH) (R : QD), k < n → Sub h1 h' → (∀ h'', Sub h' h'' → R (f k).2 h'') → wv (env.set i (some (.int (lo + (k : Nat))))) h' R (fun _ _ => False))
    (q : ∀ p h', h1 p = none → Sub h1 h' → h' p = some (.dK (dictOf f n)) → Q (.ref p) h') : DcS i wYes wk wv env Q ⟨upto lo n, gd⟩ h1 := by
  refine dcS_go f hgd (by rw [upto_len]; exact hl) (fun k x h' R hx sb kk => ?_) (fun k x h' R hx sb kk => ?_) (by rw [upto_len]; exact q)
  · obtain ⟨hj, rfl⟩ := upto_get hx
    exact hk k h' R hj sb kk
  · obtain ⟨hj, rfl⟩ := upto_get hx
    exact hv k h' R hj sb kk
theorem zEDcS {env : Ev} {h : DH} {Q : QD} {Qx : QX} : wDcS wi i wt wk wv env h Q Qx = wi env h (fun s h1 => DcS i wt wk wv env Q s h1) Qx := rfl
end
end DL
namespace L2
open PySem PySem.Spec PyProof.Rows
/-! ### dicts with tuple keys: items, comprehensions -/
section
variable {X : Cx} {pins : List (Addr × Obj)} {σ : L2.St} {H : Hp} {s : Shared}
/-- what a locked dict with tuple keys holds, entry by entry -/
theorem lockT_at {d : Addr} {o : Obj} {kvs : List (List Key × V)} (I : Inv X pins σ H s) (e : H d = some (.frz o (.dT kvs))) : ∃ (es : Array DictEntry) (ep : Nat), (d == sysModules) = false ∧ DT.Raw s.heap d es ep ∧ o.data = .dict es ep ∧ o.dict = none ∧ es.size = kvs.length ∧
    ∀ (i : Nat) (hi : i < es.size), ∃ k v q, kvs[i]? = some (k, v) ∧ es[i].key = .ref q ∧ H q = some (.tup (k.map kV)) ∧ RelV v es[i].val := by
  obtain ⟨eo, hz, hs, xs, pr, ob, es, ep, h1, h2, h3, h4, _⟩ := I.hok d _ e
  rw [eo] at h1
  cases h1
  have n1 := size_of_entries h4
  have n2 : kvs.length = xs.length := Paired.length pr
  refine ⟨es, ep, hs, ⟨o, eo, h2, h3⟩, h3, h2.2.1, n1.trans n2.symm, fun i hi => ?_⟩
  have hk : i < kvs.length := by omega
  obtain ⟨b, hb, c1, c2, c3⟩ := L2.paired_get pr (List.getElem?_eq_getElem hk)
  have ea := entry_at h4 i
  rw [hb, Array.getElem?_eq_getElem hi] at ea
  have ea := Option.some.inj ea
  refine ⟨_, _, b.2.1, List.getElem?_eq_getElem hk, ?_, c2, ?_⟩
  · rw [ea]; rfl
  · rw [ea]; exact c3
/-- the pairs, each a new tuple of the key's own tuple and the value -/
def ItQ2 (d : Addr) (o : Obj) (kvs : List (List Key × V)) : It :=
  ⟨fun i H => H d = some (.frz o (.dT kvs)) ∧ i < kvs.length, fun i H x H' => ∃ T k v q, kvs[i]? = some (k, v) ∧ H q = some (.tup (k.map kV)) ∧ x = .ref T ∧ H T = none ∧ H' = upd H T (.tup [.ref q, v]), fun i H => H d = some (.frz o (.dT kvs)) ∧ kvs.length ≤ i⟩
theorem turn_pairsT {P : Program} {w : World} {K : PySem.W.Frag} {d : Addr} {o : Obj} {n ep : Nat} {kvs : List (List Key × V)} {tgs : List Expr} {kk : Nat} {tp : Pos} (it : Addr) (hn : n = kvs.length) (hep : ∀ es e2, o.data = .dict es e2 → e2 = ep) :
    Turn P w K (.Tuple tgs kk tp) (ItQ2 d o kvs) [it] it (fun i h => ∃ a b, IsItemIter h it d i n ep a b) where
  mem := List.mem_singleton_self _
  obj := fun i h ⟨a, b, st⟩ c hc => by
    rw [List.mem_singleton.mp hc]
    exact ⟨_, st, fun v z => nomatch z⟩
  keep := fun i h h' ⟨a, b, st⟩ k => ⟨a, b, k it (List.mem_singleton_self _) _ st⟩
  item := by
    intro X eP eW eK hc i pins s σ H E I hf ⟨a, b, st⟩ ⟨hd, hi⟩
    subst eP eW eK
    obtain ⟨es, e2, hs, raw, hdt, _, hz, ent⟩ := lockT_at I hd
    cases hep _ _ hdt
    have en : n = es.size := by omega
    subst en
    have hi' : i < es.size := by omega
    obtain ⟨k, v, q, c1, c2, c3, c4⟩ := ent i hi'
    have itlt : it < s.heap.objs.size := Heap.lt_size st
    refine DT.nextI st raw hi' fun h1 out tup sz kp => ⟨_, rfl, wpAny_letOwnedTupleGo_items (s := { s with heap := h1 }) out fun h2 st2 sb => ?_⟩
    have tup2 := (sb.2 _ (Nat.ne_of_gt itlt)).trans tup
    have fr : H s.heap.objs.size = none := I.hok.fresh (Nat.le_refl _)
    have new : ObjOk X.prog X.w (upd H s.heap.objs.size (.tup [.ref q, v])) h2 s.heap.objs.size (.tup [.ref q, v]) :=
      ⟨(by decide : 2 ≤ sizeLine), [es[i].key, es[i].val], .cons c2 (.cons c4 .nil), _, tup2, rfl, _, rfl⟩
    have J := I.turnedNew (t' := s.toks) (ch := [it]) (fun c ob hb e => (sb.2 c (fun z => hb (List.mem_singleton.mpr z))).trans (kp c ob (fun z => hb (List.mem_singleton.mpr z)) e)) hf (Nat.le_refl _) new
    refine ⟨.ref s.heap.objs.size, _, J, rfl, ⟨_, k, v, q, c1, c3, rfl, fr, rfl⟩, ⟨_, _, st2⟩, fun c hc => ?_⟩
    rw [List.mem_singleton.mp hc, upd_ne (Nat.ne_of_lt itlt)]
    exact (hf it (List.mem_singleton_self _)).1
  done := by
    intro X eP eW eK hc i pins s σ H E I hf ⟨a, b, st⟩ ⟨hd, hi⟩
    subst eP eW eK
    obtain ⟨es, e2, hs, raw, hdt, _, hz, ent⟩ := lockT_at I hd
    cases hep _ _ hdt
    have en : n = es.size := by omega
    subst en
    obtain ⟨g0, g1, g2, g3, g4, g5⟩ := hf it (List.mem_singleton_self _)
    exact DT.endI (I.ok.hd hc) st raw (by omega) fun h1 eb => ⟨rfl, I.turned (t' := s.toks) (fun c ob hb e => eb c ob hb e) g0 g1 g3 g4 g5⟩
  self := fun A i s Q E ⟨a, b, st⟩ h => PySem.W.kcp_self st h
def iPairsT (td : TE) : TI := fun σ H R => td σ H fun x H1 => ∃ d o kvs, x = .ref d ∧ H1 d = some (.frz o (.dT kvs)) ∧ R (ItQ2 d o kvs) H1
theorem pi_pairsT {e : Expr} {td : TE} {apos cpos tp : Pos} {tgs : List Expr} {kk : Nat} (he : PE X e td) (hbase : attributeBase e "items" X.env (eval e X.env) = eval e X.env := by rfl) (hline : (apos.endLine == cpos.line) = true := by rfl) :
    PI X (.Tuple tgs kk tp) (.Call (.Attribute e "items" apos) [] [] cpos) (iPairsT td) := by
  refine ⟨fun pins s σ H R I h => wpAny_Call_method (T := "dict") (id := "dict.items") hbase rfl hline PySem.F.plainAttrs_dict PySem.F.slot_dict_items PySem.F.type_dict_items (thn (he.run pins s σ H _ I h) ?_)⟩
  rintro u s1 ⟨x, H1, I1, rx, d, o, kvs, rfl, hd, q⟩
  obtain rfl : u = Value.ref d := rx
  obtain ⟨es, ep, hs, raw, hdt, hno, hz, _⟩ := lockT_at I1 hd
  have ho : s1.heap.get? d = some o := (I1.hok d _ hd).1
  refine ⟨raw.typeIs, fun b e => by cases e; exact ⟨o, ho, hno⟩, ?_⟩
  generalize hp : s1.heap.objs.size = p
  have I2 : Inv X pins σ H1 { s1 with heap := s1.heap.push { cls := .type "dict_items", data := .fields #[.ref d] } } := I1.kept (t' := s1.toks) fun b ob q => Heap.get?_push_of_some _ q
  have view : ({ s1 with heap := s1.heap.push { cls := .type "dict_items", data := .fields #[.ref d] } } : Shared).heap.IsItemsView p d := by subst hp; exact ⟨_, Heap.get?_push_size _ rfl, rfl, rfl⟩
  have go : wpAny (model X.prog X.w) X.A (pyIter (.ref p)) (PIE X pins σ (.Tuple tgs kk tp) R) X.xe { s1 with heap := s1.heap.push { cls := .type "dict_items", data := .fields #[.ref d] } } :=
    DT.iterI view (raw.push _) (pi_one (tk := s1.toks) I2 _ (turn_pairsT (n := es.size) (ep := ep) _ hz fun es' e2 h' => by rw [hdt] at h'; cases h'; rfl) ⟨.none, .none, Heap.get?_push_size _ rfl⟩ q)
  subst hp
  show wpAny _ _ (callWith cpos (.builtin "dict.items") [.ref d] [] []) _ X.xe s1
  exact method_meetsIn PySem.F.slot_dict_items PySem.F.entry_dict_items rfl (PySem.evalArgs_none ⟨rfl, raw.typeIs, PySem.F.args_dict_items_1 _, _, DT.meetsItems (es := es) (ep := ep) hs, ⟨raw, go⟩⟩)
/-- a comprehension's store under a tuple -/
theorem putT_run {E : Value → Shared → Prop} {D b : Addr} {kvs : List (List Key × V)} {k : List Key} {v : V} {r : Value} {Q : Unit → Shared → Prop} (hu : X.A.units + 1 < cLine) (I : Inv X pins σ H s) (eD : H D = some (.dT kvs)) (eb : H b = some (.tup (k.map kV))) (hz : kvs.length < sizeLine) (rv : RelV v r)
    (q : ∀ s', Inv X pins σ (upd H D (.dT (putK kvs k v))) s' → Q () s') : wpAny (model X.prog X.w) X.A (dictSet D (.ref b) r) Q E s := by
  obtain ⟨z, ns, xs, rel, dd⟩ := dt_of I.hok eD
  have zx : xs.length ≤ sizeLine := by rw [← Paired.length rel]; exact z
  refine wpAny_dictSet_heap (hsz := zx) (show X.A.units < cLine by omega) (key_of I.hok eb) dd fun h1 ⟨ob, es, ep, c1, c2, c3, c4, _, c5⟩ sb => q _ (d_write I (by rw [eD]; exact True.intro) sb ⟨ob, c1⟩ ⟨?_, ns, _, (rel.put k eb rv).keeps fun c ys ec => ?_, ob, es, ep, c1, c2, c3, c4, c5⟩)
  · have := length_putK kvs k v; omega
  · rw [upd_ne (ne_of ec eD (fun z => nomatch z))]; exact ec
/-- {k: v for target in iter if ..}, the keys tuples: D the new dict -/
def tDcT (wi : TI) (g : TG) (tt : TT) (tk tv : TE) (vs : List Nat) : TE := fun σ H Q => wi σ H fun J H1 => ∀ D, H1 D = none → ∃ W : Nat → Nat → Hp → Prop, (∃ m, W 0 m (upd H1 D (.dT []))) ∧ ∀ i m H, W i m H →
  (J.stop i H ∧ Q (.ref D) H) ∨ (J.go i H ∧ ∃ Nx : Hp → Prop, (∀ H', Nx H' → ∃ m', m' < m ∧ W (i + 1) m' H') ∧ ∀ x H', J.yld i H x H' → g x (wipe σ vs) H' fun σ2 H2 => wipe σ2 vs = wipe σ vs ∧ tt σ2 H2 fun b H3 =>
    if b = true then tk σ2 H3 fun y H4 => tv σ2 H4 fun z H5 => ∃ kvs k a, y = .ref a ∧ H5 a = some (.tup (k.map kV)) ∧ H5 D = some (.dT kvs) ∧ kvs.length < sizeLine ∧ Nx (upd H5 D (.dT (putK kvs k z))) else Nx H3)
variable {kx vx tg iter : Expr} {ifs : List Expr} {scope : Scope} {own : List (Str × Nat)} {pos : Pos} {wi : TI} {g : TG} {tt : TT} {tk tv : TE}
theorem pe_dcT (hu : X.A.units + 1 < cLine) (calm : X.calm = true) (nd : X.N.Nodup) (hi : PI X tg iter wi) (ok : BlkOk X.N X.env.scope scope own)
    (pg : ∀ (s : Shared) (H : Hp) (C : Addr) (cl : List (Str × Addr)) (fp : List Addr), PG (X.blk s H scope (compEnvC scope cl C X.env) fp) tg g)
    (pt : ∀ (s : Shared) (H : Hp) (C : Addr) (cl : List (Str × Addr)) (fp : List Addr), PTs (X.blk s H scope (compEnvC scope cl C X.env) fp) ifs tt)
    (pk : ∀ (s : Shared) (H : Hp) (C : Addr) (cl : List (Str × Addr)) (fp : List Addr), PE (X.blk s H scope (compEnvC scope cl C X.env) fp) kx tk)
    (pv : ∀ (s : Shared) (H : Hp) (C : Addr) (cl : List (Str × Addr)) (fp : List Addr), PE (X.blk s H scope (compEnvC scope cl C X.env) fp) vx tv) (hs : ∀ x, foldedSetIterable iter X.env x = pure x := by intro _; rfl) :
    PE X (.DictComp kx vx [⟨tg, iter, ifs, 0⟩] scope pos) (tDcT wi g tt tk tv (own.map (·.2))) := by
  refine ⟨fun pins s0 σ H0 Q I0 hQ => ?_⟩
  rw [arm_eval_DictComp]
  have free : ∀ y ∈ scope.names, y.2 = .free → ∃ c, X.env.cells.lookup y.1 = some c := fun y m e => (ok.free y m e).elim (fun k => I0.ok.has _ (.inl k)) fun k => I0.ok.has _ (.inr k)
  refine wpAny_comprehension_free rfl hs (closure_ok free) ok.kind (fun y m e => by rw [ok.uniq y m, e]) (thn (hi.run pins s0 σ H0 _ I0 hQ) fun _ s1 h1 => thn h1 fun _ s2 h2 => ?_)
  obtain ⟨it, fp, tn, J, H1, rfl, I1, T, t0, fps, start⟩ := h2
  refine wpAny_newObj_type (newEnv_comp ?_)
  obtain ⟨D, eD⟩ : ∃ D, D = s2.heap.objs.size := ⟨_, rfl⟩
  obtain ⟨W, ⟨m0, w0⟩, turn⟩ := start D (I1.hok.fresh (Nat.le_of_eq eD.symm))
  have low : ∀ b ∈ fp, b < D := fun b hb => by
    obtain ⟨o, e, _⟩ := T.obj _ _ t0 b hb
    rw [eD]; exact Heap.lt_size e
  -- the new dict is laid
  have I2 : Inv X pins σ (upd H1 D (.dT [])) { s2 with heap := s2.heap.push { cls := .type "dict", data := .dict #[] } } :=
    I1.laid (t' := s2.toks) (fun b o e => Heap.get?_push_of_some _ e) (Nat.le_of_eq eD.symm) (by rw [eD]; exact dt_empty s2.heap I1.big)
  have low2 : ∀ b ∈ fp, b < (s2.heap.push { cls := .type "dict", data := .dict #[] }).objs.size := fun b hb => by rw [Heap.size_push, ← eD]; exact Nat.lt_succ_of_lt (low b hb)
  have t1 : tn 0 (s2.heap.push { cls := .type "dict", data := .dict #[] }) := T.keep _ _ _ t0 fun b _ o e => Heap.get?_push_of_some _ e
  have own3 : ∀ b ∈ fp, FpOk X pins (upd H1 D (.dT [])) b := fun b hb => ⟨by rw [upd_ne (Nat.ne_of_lt (low b hb))]; exact (fps b hb).1, (fps b hb).2⟩
  rw [← eD]
  clear t0 low fps eD I1
  generalize upd H1 D (.dT []) = G at I2 own3 w0
  obtain ⟨s3, e3⟩ : ∃ s3 : Shared, s3 = { s2 with heap := s2.heap.push { cls := .type "dict", data := .dict #[] } } := ⟨_, rfl⟩
  have eh : s2.heap.push { cls := .type "dict", data := .dict #[] } = s3.heap := by rw [e3]
  rw [← e3] at I2 ⊢
  rw [eh] at low2 t1
  -- the block begins
  have B := block_start I2 ok nd fun b hb => ⟨own3 b hb, low2 b hb⟩
  have qg := pg s3 G s3.heap.objs.size (cellsFrom (s3.heap.objs.size + 1) scope.names (cloFrom X.env.cells scope.names [])) fp
  have qt := pt s3 G s3.heap.objs.size (cellsFrom (s3.heap.objs.size + 1) scope.names (cloFrom X.env.cells scope.names [])) fp
  have qk := pk s3 G s3.heap.objs.size (cellsFrom (s3.heap.objs.size + 1) scope.names (cloFrom X.env.cells scope.names [])) fp
  have qv := pv s3 G s3.heap.objs.size (cellsFrom (s3.heap.objs.size + 1) scope.names (cloFrom X.env.cells scope.names [])) fp
  have t2 : tn 0 (pushCells (s3.heap.push { cls := .type "dict", data := .dict #[] }) scope.names) := T.keep _ _ _ t1 fun b _ o e => pushCells_keeps _ _ _ _ (Heap.get?_push_of_some _ e)
  have el : (compEnvC scope (cellsFrom (s3.heap.objs.size + 1) scope.names (cloFrom X.env.cells scope.names [])) s3.heap.objs.size X.env).locals = s3.heap.objs.size := rfl
  show codeAny _ _ (.compStart (.DictComp kx vx [⟨tg, iter, ifs, 0⟩] scope pos) 0 (.ref it) (.ref D) (compEnvC scope (cellsFrom (s3.heap.objs.size + 1) scope.names (cloFrom X.env.cells scope.names [])) s3.heap.objs.size X.env)) _ { s3 with heap := pushCells (s3.heap.push { cls := .type "dict", data := .dict #[] }) scope.names }
  generalize compEnvC scope (cellsFrom (s3.heap.objs.size + 1) scope.names (cloFrom X.env.cells scope.names [])) s3.heap.objs.size X.env = ce at B qg qt qk qv el ⊢
  obtain ⟨s4, e4⟩ : ∃ s4 : Shared, s4 = { s3 with heap := pushCells (s3.heap.push { cls := .type "dict", data := .dict #[] }) scope.names } := ⟨_, rfl⟩
  rw [← e4] at B ⊢
  have t2 : tn 0 s4.heap := by rw [e4]; exact t2
  have none3 : ∀ b ∈ fp, G b = none := fun b hb => (own3 b hb).1
  have fpk : ∀ {σ' : L2.St} {H' : Hp} {s' : Shared}, Inv (X.blk s3 G scope ce fp) [] σ' H' s' → (∀ b ∈ fp, H' b = none) → ∀ b ∈ fp, FpOk (X.blk s3 G scope ce fp) [] H' b := fun {σ' H' s'} I' hn b hb =>
    ⟨hn b hb, (I'.ok.exf b hb).1, I'.ok.exfs b hb, .inl hb, fun x c e => (I'.ok.exf b hb).2 x c e, fun p hp => absurd (show p ∈ ([] : List (Addr × Obj)) ++ [] from hp) (by simp)⟩
  have hu2 : (X.blk s3 G scope ce fp).A.units + 1 < cLine := hu
  refine codeAny_compStart_dict ?loop (T.self X.A 0 _ _ _ t2 ?loop)
  case loop =>
  refine compLoop_anyD (fun n s' => ∃ i H', Inv (X.blk s3 G scope ce fp) [] (wipe σ (own.map (·.2))) H' s' ∧ tn i s'.heap ∧ (∀ b ∈ fp, H' b = none) ∧ W i n H') ?_ m0 ⟨0, G, B, t2, none3, w0⟩
  rintro n s5 ⟨i, H5, J5, t5, n5, w5⟩
  rcases turn i n H5 w5 with ⟨stop, fin⟩ | ⟨go, Nx, back, body⟩
  · -- no item is left
    refine thnF (T.done (X.blk s3 G scope ce fp) rfl rfl rfl calm i [] s5 _ H5 (fun _ _ => False) J5 (fpk J5 n5) t5 stop) ?_
    rintro r s6 ⟨rfl, J6⟩
    have K6 : Inv X pins σ H5 s6 := I2.call' (ch := fp) J6.os J6.base J6.hok J6.bare fun b hb => ⟨(own3 b hb).2.2.2.1, (own3 b hb).2.1, (own3 b hb).2.2.2.2.1, (own3 b hb).2.2.2.2.2⟩
    have gone : H5 s3.heap.objs.size = none := by rw [← el]; exact J6.free
    obtain ⟨m, hm, _⟩ := J6.loc
    have hm : s6.heap.Ns s3.heap.objs.size m := by rw [← el]; exact hm
    obtain ⟨g0, g1, g2, g3, g4, g5⟩ := I2.fpOk (Nat.le_refl _) gone
    exact ⟨m, hm, fun h9 sb => ⟨.ref D, H5, K6.turned (t' := s6.toks) (fun b o hb e => (sb.2 b hb).trans e) g0 g1 g3 g4 g5, rfl, fin⟩⟩
  · -- a turn
    refine thnF (T.item (X.blk s3 G scope ce fp) rfl rfl rfl calm i [] s5 _ H5 (fun _ _ => False) J5 (fpk J5 n5) t5 go) ?_
    rintro r s6 ⟨u, rfl, h6⟩
    refine thnF h6 ?_
    rintro _ s7 ⟨x, H7, J7, r7, y7, t7, n7⟩
    refine thnF (qg.run _ s7 _ H7 x u _ (J7.pinned (fpk J7 n7) (T.obj _ _ t7)) r7 (body x H7 y7)) ?_
    rintro _ s8 ⟨σ8, H8, J8, wip, q8⟩
    have len8 : (wipe σ (own.map (·.2))).length = σ8.length := by rw [← wip, wipe_length]
    have next : ∀ {s' : Shared} {H' : Hp}, Inv (X.blk s3 G scope ce fp) ([] ++ pinsAt fp s7.heap) σ8 H' s' → Nx H' → ∃ m, m < n ∧ ∃ i H', Inv (X.blk s3 G scope ce fp) [] (wipe σ (own.map (·.2))) H' s' ∧ tn i s'.heap ∧ (∀ b ∈ fp, H' b = none) ∧ W i m H' := by
      intro s' H' J' nx
      obtain ⟨m, lt, wm⟩ := back H' nx
      have pinned : ∀ b ∈ fp, ∀ o, s7.heap.get? b = some o → s'.heap.get? b = some o ∧ H' b = none := fun b hb o e => by
        have z := J'.pin (b, o) (List.mem_append_right _ (List.mem_append_right _ (mem_pinsAt hb e)))
        exact ⟨z.1, z.2.1⟩
      refine ⟨m, lt, i + 1, H', (J'.unpinned (pins := [])).weak len8 (fun j v e => ?_), T.keep _ _ _ t7 fun b hb o e => (pinned b hb o e).1, fun b hb => ?_, wm⟩
      · rw [← wip] at e; exact (wipe_some e).1
      · obtain ⟨o, e, _⟩ := T.obj _ _ t7 b hb
        exact (pinned b hb o e).2
    refine thnF (qt.run _ s8 σ8 H8 _ J8 q8) ?_
    rintro c s9 ⟨H9, J9, q9⟩
    cases c with
    | false =>
      simp only [Bool.false_eq_true, if_false] at q9 ⊢
      exact next J9 q9
    | true =>
      simp only [if_true] at q9 ⊢
      refine thnF (qk.run _ s9 σ8 H9 _ J9 q9) ?_
      rintro z1 s10 ⟨yk, H10, J10, r10, q10⟩
      refine thnF (qv.run _ s10 σ8 H10 _ J10 q10) ?_
      rintro z2 s11 ⟨yv, H11, J11, r11, kvs, k, a, rfl, ek, eD, hz, nx⟩
      obtain rfl : z1 = Value.ref a := r10
      exact putT_run (X := X.blk s3 G scope ce fp) hu2 J11 eD ek hz r11 fun s12 J12 => next J12 nx
end
end L2
namespace L2
open PySem PySem.Spec PyProof.Rows
/-- a zip that has handed out a tuple or none, told alive or not -/
def ZSt (h : Heap) (z TI TO : Addr) : Prop := ∃ (f0 : Value) (f1 : Bool), (f0 = .none ∨ ∃ T : Nat, f0 = rawInt T) ∧ h.get? z = some { cls := .type "zip", data := .fields #[f0, .bool f1, .bool false, .ref TI, .ref TO] }
section
variable {prog : Program} {w : World} {A : Around} {E : Value → Shared → Prop} {s : Shared} {z TI TO : Addr}
theorem wpAny_alive {a : Addr} {Q : Option Obj → Shared → Prop} (h : Q (s.heap.get? a) s) : wpAny (model prog w) A (loadIfAlive a) Q E s := by
  intro Γ p _
  unfold loadIfAlive
  rw [Sem.wp_loadIfAlive]
  exact h
theorem sameBut_update {h : Heap} {f : Obj → Obj} : Heap.SameBut z h (h.update z f) := ⟨Heap.size_update .., fun b hb => Heap.get?_update_ne _ _ _ _ hb⟩
theorem zip_owned {Q : Bool → Shared → Prop} (st : ZSt s.heap z TI TO) (q1 : Q true s) (q2 : ∀ h', ZSt h' z TI TO → Heap.SameBut z s.heap h' → Q false { s with heap := h' }) :
    wpAny (model prog w) A (Builtin.SmallTypes.ownedTupleIsFree (.ref z)) Q E s := by
  obtain ⟨f0, f1, hf, hz⟩ := st
  unfold Builtin.SmallTypes.ownedTupleIsFree
  refine wpAny_bind (wpAny_field hz rfl rfl ?_)
  rcases hf with rfl | ⟨T, rfl⟩
  · exact wpAny_pure q1
  · show wpAny _ _ (loadIfAlive _ >>= _) _ _ _
    refine wpAny_bind (wpAny_alive ?_)
    cases e : s.heap.get? ((T : Int).toNat) with
    | none => exact wpAny_pure q1
    | some o =>
      dsimp only [Option.isNone]
      rw [if_neg Bool.false_ne_true]
      refine wpAny_bind (wpAny_field hz rfl rfl ?_)
      cases f1 with
      | true =>
        exact wpAny_pure (q2 s.heap ⟨_, _, .inr ⟨T, rfl⟩, hz⟩ ⟨rfl, fun b _ => rfl⟩)
      | false =>
        refine wpAny_bind (wpAny_setField hz rfl (show 1 < 5 from Nat.lt_of_sub_pos (Nat.zero_lt_succ 3)) ?_)
        exact wpAny_pure (q2 _ ⟨_, true, .inr ⟨T, rfl⟩, Heap.get?_update_self _ hz rfl⟩ sameBut_update)
variable {i1 i2 i3 : Addr} {fp1 fp2 fp3 : List Addr} {n1 n2 n3 i : Nat} {P1 P2 P3 : Nat → Value → Prop} {St1 St2 St3 : Nat → Heap → Prop}
theorem zip3_item {Q : Value → Shared → Prop} (S : ZipSep3 z TI TO i1 i2 i3 fp1 fp2 fp3) (D1 : Draws prog w A i1 fp1 n1 P1 St1) (D2 : Draws prog w A i2 fp2 n2 P2 St2) (D3 : Draws prog w A i3 fp3 n3 P3 St3)
    (hz : ZSt s.heap z TI TO) (hTI : IsTupOf3 s.heap TI (.ref i1) (.ref i2) (.ref i3)) (hTO : ∃ a1 a2 a3, IsTupOf3 s.heap TO a1 a2 a3) (st1 : St1 i s.heap) (st2 : St2 i s.heap) (st3 : St3 i s.heap) (l1 : i < n1) (l2 : i < n2) (l3 : i < n3)
    (hQ : ∀ (x1 x2 x3 : Value) (h' : Heap) (tk : Nat), P1 i x1 → P2 i x2 → P3 i x3 → ZSt h' z TI TO → (∃ a1 a2 a3, IsTupOf3 h' TO a1 a2 a3) → St1 (i + 1) h' → St2 (i + 1) h' → St3 (i + 1) h' → IsTupOf3 h' s.heap.objs.size x1 x2 x3 → h'.objs.size = s.heap.objs.size + 1 →
      (∀ (c : Addr) (o : Obj), c ≠ z → c ≠ TO → c ≠ i1 → c ≠ i2 → c ≠ i3 → s.heap.get? c = some o → h'.get? c = some o) → Q (.ref s.heap.objs.size) { s with heap := h', toks := tk }) :
    wpAny (model prog w) A (Builtin.«zip.__next__» ⟨[.ref z], []⟩) (fun fin s' => ∃ v, fin = Fin.done (Flow.ret v) ∧ Q v s') E s := by
  obtain ⟨f0, f1, hf, hzz⟩ := id hz
  unfold Builtin.«zip.__next__»
  refine wpAny_bind (m := slotArgs _ _ _) (wpAny_pure ?_)
  refine wpAny_bind (wpAny_field hzz rfl rfl ?_)
  refine wpAny_bind (wpAny_field hzz rfl rfl ?_)
  refine wpAny_bind (wpAny_seqItems hTI rfl ?_)
  dsimp only
  rw [if_neg (by simp)]
  refine wpAny_bind (zip_owned hz ?_ fun h' hz' sb => ?_)
  · rw [if_pos rfl]
    refine wpAny_bind (wpAny_rule ?_)
    refine wpAny_bind (wpAny_field hzz rfl rfl ?_)
    refine wpAny_bind (wpAny_setField hzz rfl (show 0 < 5 from Nat.lt_of_sub_pos (Nat.zero_lt_succ 4)) ?_)
    simp only [List.zipIdx_cons, List.zipIdx_nil, List.forIn_cons, List.forIn_nil, bind_assoc, pure_bind]
    obtain ⟨a1, a2, a3, eTO⟩ := hTO
    have zn1 : z ≠ i1 := fun q => S.zf1 (q ▸ S.mem1)
    have zn2 : z ≠ i2 := fun q => S.zf2 (q ▸ S.mem2)
    have zn3 : z ≠ i3 := fun q => S.zf3 (q ▸ S.mem3)
    have tn1 : TO ≠ i1 := fun q => S.Tf1 (q ▸ S.mem1)
    have tn2 : TO ≠ i2 := fun q => S.Tf2 (q ▸ S.mem2)
    have tn3 : TO ≠ i3 := fun q => S.Tf3 (q ▸ S.mem3)
    -- the zip is at work
    obtain ⟨G, eG⟩ : ∃ G, G = s.heap.update z (Obj.mapFields fun x => x.setIfInBounds 0 Value.ellipsis) := ⟨_, rfl⟩
    have zG : G.get? z = some { cls := .type "zip", data := .fields #[.ellipsis, .bool f1, .bool false, .ref TI, .ref TO] } := by rw [eG]; exact Heap.get?_update_self _ hzz rfl
    have bG : Heap.SameBut z s.heap G := by rw [eG]; exact sameBut_update
    rw [← eG]
    clear eG
    have g1 : ∀ {fp : List Addr}, z ∉ fp → ∀ b ∈ fp, ∀ o, s.heap.get? b = some o → G.get? b = some o := fun zn b hb o e => (bG.2 b (fun q => zn (q ▸ hb))).trans e
    -- the first
    refine wpAny_bind (wpAny_onRaise ?_)
    show wpAny _ _ (Builtin.SmallTypes.nextOf _ >>= fun y => pure (some y)) _ _ _
    refine wpAny_bind (D1.item i { s with heap := G } _ _ l1 (D1.frame i _ _ st1 (g1 S.zf1)) fun x1 h1 t1 p1 u1 b1 => wpAny_pure ?_)
    have e1 : h1.get? TO = some { cls := .type "tuple", data := .seq #[a1, a2, a3] } := (b1.2 _ tn1).trans ((bG.2 _ S.TOz).trans eTO)
    refine wpAny_bind (wpAny_bind (wpAny_seqItems e1 rfl ?_))
    refine wpAny_bind (wpAny_updateSeq e1 rfl ?_ (show 3 ≤ sizeLine by decide) (show 3 ≤ sizeLine + 1 by decide))
    obtain ⟨G1, eG1⟩ : ∃ G1, G1 = h1.update TO (Obj.mapSeq fun y => y.setIfInBounds 0 x1) := ⟨_, rfl⟩
    have oG1 : G1.get? TO = some { cls := .type "tuple", data := .seq #[x1, a2, a3] } := by rw [eG1]; exact Heap.get?_update_self _ e1 rfl
    have bG1 : Heap.SameBut TO h1 G1 := by rw [eG1]; exact sameBut_update
    rw [← eG1]
    clear eG1
    refine wpAny_bind (wpAny_letGo (wpAny_pure ?_))
    refine wpAny_bind ?_
    dsimp only
    -- the second
    have g2 : ∀ {fp : List Addr}, z ∉ fp → i1 ∉ fp → TO ∉ fp → ∀ b ∈ fp, ∀ o, s.heap.get? b = some o → G1.get? b = some o := fun zn n1 tn b hb o e => (bG1.2 b (fun q => tn (q ▸ hb))).trans ((b1.2 b (fun q => n1 (q ▸ hb))).trans (g1 zn b hb o e))
    refine wpAny_bind (wpAny_onRaise ?_)
    show wpAny _ _ (Builtin.SmallTypes.nextOf _ >>= fun y => pure (some y)) _ _ _
    refine wpAny_bind (D2.item i { s with heap := G1, toks := t1 } _ _ l2 (D2.frame i _ _ st2 (g2 S.zf2 S.sep1_2 S.Tf2)) fun x2 h2 t2 p2 u2 b2 => wpAny_pure ?_)
    have e2 : h2.get? TO = some { cls := .type "tuple", data := .seq #[x1, a2, a3] } := (b2.2 _ tn2).trans oG1
    refine wpAny_bind (wpAny_bind (wpAny_seqItems e2 rfl ?_))
    refine wpAny_bind (wpAny_updateSeq e2 rfl ?_ (show 3 ≤ sizeLine by decide) (show 3 ≤ sizeLine + 1 by decide))
    obtain ⟨G2, eG2⟩ : ∃ G2, G2 = h2.update TO (Obj.mapSeq fun y => y.setIfInBounds (0 + 1) x2) := ⟨_, rfl⟩
    have oG2 : G2.get? TO = some { cls := .type "tuple", data := .seq #[x1, x2, a3] } := by rw [eG2]; exact Heap.get?_update_self _ e2 rfl
    have bG2 : Heap.SameBut TO h2 G2 := by rw [eG2]; exact sameBut_update
    rw [← eG2]
    clear eG2
    refine wpAny_bind (wpAny_letGo (wpAny_pure ?_))
    dsimp only
    -- the third
    have g3 : ∀ {fp : List Addr}, z ∉ fp → i1 ∉ fp → i2 ∉ fp → TO ∉ fp → ∀ b ∈ fp, ∀ o, s.heap.get? b = some o → G2.get? b = some o := fun zn n1 n2 tn b hb o e => (bG2.2 b (fun q => tn (q ▸ hb))).trans ((b2.2 b (fun q => n2 (q ▸ hb))).trans (g2 zn n1 tn b hb o e))
    refine wpAny_bind (wpAny_onRaise ?_)
    show wpAny _ _ (Builtin.SmallTypes.nextOf _ >>= fun y => pure (some y)) _ _ _
    refine wpAny_bind (D3.item i { s with heap := G2, toks := t2 } _ _ l3 (D3.frame i _ _ st3 (g3 S.zf3 S.sep1_3 S.sep2_3 S.Tf3)) fun x3 h3 t3 p3 u3 b3 => wpAny_pure ?_)
    have e3 : h3.get? TO = some { cls := .type "tuple", data := .seq #[x1, x2, a3] } := (b3.2 _ tn3).trans oG2
    refine wpAny_bind (wpAny_bind (wpAny_seqItems e3 rfl ?_))
    refine wpAny_bind (wpAny_updateSeq e3 rfl ?_ (show 3 ≤ sizeLine by decide) (show 3 ≤ sizeLine + 1 by decide))
    obtain ⟨G3, eG3⟩ : ∃ G3, G3 = h3.update TO (Obj.mapSeq fun y => y.setIfInBounds (0 + 1 + 1) x3) := ⟨_, rfl⟩
    have oG3 : G3.get? TO = some { cls := .type "tuple", data := .seq #[x1, x2, x3] } := by rw [eG3]; exact Heap.get?_update_self _ e3 rfl
    have bG3 : Heap.SameBut TO h3 G3 := by rw [eG3]; exact sameBut_update
    rw [← eG3]
    clear eG3
    refine wpAny_bind (wpAny_letGo (wpAny_pure ?_))
    dsimp only
    refine wpAny_pure ?_
    dsimp only
    -- the new tuple
    refine wpAny_bind (wpAny_seqItems oG3 rfl ?_)
    refine wpAny_bind (wpAny_newTuple ?_ (show 3 ≤ sizeLine by decide))
    have sz : G3.objs.size = s.heap.objs.size := bG3.1.trans (b3.1.trans (bG2.1.trans (b2.1.trans (bG1.1.trans (b1.1.trans bG.1)))))
    obtain ⟨N, eN⟩ : ∃ N, N = G3.push { cls := .type "tuple", data := .seq #[x1, x2, x3] } := ⟨_, rfl⟩
    have at3 : ∀ b o, b ≠ TO → b ≠ i1 → b ≠ i2 → b ≠ i3 → G.get? b = some o → N.get? b = some o := fun b o n0 n1 n2 n3 e => by
      rw [eN]
      exact Heap.get?_push_of_some _ ((bG3.2 b n0).trans ((b3.2 b n3).trans ((bG2.2 b n0).trans ((b2.2 b n2).trans ((bG1.2 b n0).trans ((b1.2 b n1).trans e))))))
    have zN : N.get? z = some { cls := .type "zip", data := .fields #[.ellipsis, .bool f1, .bool false, .ref TI, .ref TO] } := at3 _ _ (Ne.symm S.TOz) zn1 zn2 zn3 zG
    have tN : N.get? s.heap.objs.size = some { cls := .type "tuple", data := .seq #[x1, x2, x3] } := by rw [eN, ← sz]; exact Heap.get?_push_size _ rfl
    have oN : N.get? TO = some { cls := .type "tuple", data := .seq #[x1, x2, x3] } := by rw [eN]; exact Heap.get?_push_of_some _ oG3
    have szN : N.objs.size = s.heap.objs.size + 1 := by rw [eN, Heap.size_push, sz]
    have w1 : ∀ b ∈ fp1, ∀ o, h1.get? b = some o → N.get? b = some o := fun b hb o e => by
      rw [eN]
      have nT : b ≠ TO := fun q => S.Tf1 (q ▸ hb)
      exact Heap.get?_push_of_some _ ((bG3.2 b nT).trans ((b3.2 b (fun q => S.sep3_1 (q ▸ hb))).trans ((bG2.2 b nT).trans ((b2.2 b (fun q => S.sep2_1 (q ▸ hb))).trans ((bG1.2 b nT).trans e)))))
    have w2 : ∀ b ∈ fp2, ∀ o, h2.get? b = some o → N.get? b = some o := fun b hb o e => by
      rw [eN]
      have nT : b ≠ TO := fun q => S.Tf2 (q ▸ hb)
      exact Heap.get?_push_of_some _ ((bG3.2 b nT).trans ((b3.2 b (fun q => S.sep3_2 (q ▸ hb))).trans ((bG2.2 b nT).trans e)))
    have w3 : ∀ b ∈ fp3, ∀ o, h3.get? b = some o → N.get? b = some o := fun b hb o e => by
      rw [eN]
      have nT : b ≠ TO := fun q => S.Tf3 (q ▸ hb)
      exact Heap.get?_push_of_some _ ((bG3.2 b nT).trans e)
    show wpAny _ _ (Builtin.SmallTypes.ownedTupleHandOut (.ref z) (.ref G3.objs.size) >>= fun _ => ret (.ref G3.objs.size)) _ _ _
    rw [sz, show G3.push { cls := .type "tuple", data := .seq #[x1, x2, x3] } = N from eN.symm]
    clear eN
    unfold Builtin.SmallTypes.ownedTupleHandOut
    refine wpAny_bind ?_
    dsimp only
    refine wpAny_bind (wpAny_setField zN rfl (show 0 < 5 from Nat.lt_of_sub_pos (Nat.zero_lt_succ 4)) ?_)
    obtain ⟨M, eM⟩ : ∃ M, M = N.update z (Obj.mapFields fun x => x.setIfInBounds 0 (rawInt (s.heap.objs.size : Nat))) := ⟨_, rfl⟩
    have zM : M.get? z = some { cls := .type "zip", data := .fields #[rawInt (s.heap.objs.size : Nat), .bool f1, .bool false, .ref TI, .ref TO] } := by rw [eM]; exact Heap.get?_update_self _ zN rfl
    have bM : Heap.SameBut z N M := by rw [eM]; exact sameBut_update
    rw [← eM]
    clear eM
    refine wpAny_setField zM rfl (show 1 < 5 from Nat.lt_of_sub_pos (Nat.zero_lt_succ 3)) ?_
    obtain ⟨L, eL⟩ : ∃ L, L = M.update z (Obj.mapFields fun x => x.setIfInBounds 1 (Value.bool false)) := ⟨_, rfl⟩
    have zL : L.get? z = some { cls := .type "zip", data := .fields #[rawInt (s.heap.objs.size : Nat), .bool false, .bool false, .ref TI, .ref TO] } := by rw [eL]; exact Heap.get?_update_self _ zM rfl
    have bL : Heap.SameBut z M L := by rw [eL]; exact sameBut_update
    rw [← eL]
    clear eL
    have nz : s.heap.objs.size ≠ z := fun q => Nat.lt_irrefl _ (q ▸ Heap.lt_size hzz)
    have lt_ : ∀ b o, b ≠ z → N.get? b = some o → L.get? b = some o := fun b o n e => (bL.2 b n).trans ((bM.2 b n).trans e)
    refine wpAny_pure ⟨_, rfl, hQ x1 x2 x3 L t3 p1 p2 p3 ⟨_, _, .inr ⟨_, rfl⟩, zL⟩ ⟨_, _, _, lt_ _ _ S.TOz oN⟩ ?_ ?_ ?_ (lt_ _ _ nz tN) ?_ ?_⟩
    · exact D1.frame _ _ _ u1 fun b hb o e => lt_ _ _ (fun q => S.zf1 (q ▸ hb)) (w1 b hb o e)
    · exact D2.frame _ _ _ u2 fun b hb o e => lt_ _ _ (fun q => S.zf2 (q ▸ hb)) (w2 b hb o e)
    · exact D3.frame _ _ _ u3 fun b hb o e => lt_ _ _ (fun q => S.zf3 (q ▸ hb)) (w3 b hb o e)
    · exact bL.1.trans (bM.1.trans szN)
    · exact fun c o c1 c2 c3 c4 c5 e => lt_ _ _ c1 (at3 c o c2 c3 c4 c5 ((bG.2 c c1).trans e))
  · rw [if_neg Bool.false_ne_true]
    simp only [← Array.forIn_toList, List.forIn_cons, List.forIn_nil, bind_assoc, pure_bind]
    have g1 : ∀ {fp : List Addr}, z ∉ fp → ∀ b ∈ fp, ∀ o, s.heap.get? b = some o → h'.get? b = some o := fun zn b hb o e => (sb.2 b (fun q => zn (q ▸ hb))).trans e
    refine wpAny_bind (wpAny_holding ?_)
    show wpAny _ _ (Builtin.SmallTypes.nextOf _ >>= fun y => pure (some y)) _ _ _
    refine wpAny_bind (D1.item i { s with heap := h' } _ _ l1 (D1.frame i _ _ st1 (g1 S.zf1)) fun x1 h1 t1 p1 u1 b1 => wpAny_pure ?_)
    refine wpAny_bind (wpAny_pure ?_)
    refine wpAny_bind ?_
    dsimp only
    have g2 : ∀ {fp : List Addr}, z ∉ fp → i1 ∉ fp → ∀ b ∈ fp, ∀ o, s.heap.get? b = some o → h1.get? b = some o := fun zn n1 b hb o e => (b1.2 b (fun q => n1 (q ▸ hb))).trans (g1 zn b hb o e)
    refine wpAny_bind (wpAny_holding ?_)
    show wpAny _ _ (Builtin.SmallTypes.nextOf _ >>= fun y => pure (some y)) _ _ _
    refine wpAny_bind (D2.item i { s with heap := h1, toks := t1 } _ _ l2 (D2.frame i _ _ st2 (g2 S.zf2 S.sep1_2)) fun x2 h2 t2 p2 u2 b2 => wpAny_pure ?_)
    refine wpAny_bind (wpAny_pure ?_)
    dsimp only
    have g3 : ∀ {fp : List Addr}, z ∉ fp → i1 ∉ fp → i2 ∉ fp → ∀ b ∈ fp, ∀ o, s.heap.get? b = some o → h2.get? b = some o := fun zn n1 n2 b hb o e => (b2.2 b (fun q => n2 (q ▸ hb))).trans (g2 zn n1 b hb o e)
    refine wpAny_bind (wpAny_holding ?_)
    show wpAny _ _ (Builtin.SmallTypes.nextOf _ >>= fun y => pure (some y)) _ _ _
    refine wpAny_bind (D3.item i { s with heap := h2, toks := t2 } _ _ l3 (D3.frame i _ _ st3 (g3 S.zf3 S.sep1_3 S.sep2_3)) fun x3 h3 t3 p3 u3 b3 => wpAny_pure ?_)
    refine wpAny_bind (wpAny_pure ?_)
    refine wpAny_pure ?_
    dsimp only
    refine wpAny_bind (wpAny_newTuple ?_ (show 3 ≤ sizeLine by decide))
    have sz : h3.objs.size = s.heap.objs.size := b3.1.trans (b2.1.trans (b1.1.trans sb.1))
    have at_ : ∀ b o, b ≠ i1 → b ≠ i2 → b ≠ i3 → h'.get? b = some o → (h3.push { cls := .type "tuple", data := .seq #[x1, x2, x3] }).get? b = some o := fun b o n1 n2 n3 e => Heap.get?_push_of_some _ ((b3.2 b n3).trans ((b2.2 b n2).trans ((b1.2 b n1).trans e)))
    have zn1 : z ≠ i1 := fun q => S.zf1 (q ▸ S.mem1)
    have zn2 : z ≠ i2 := fun q => S.zf2 (q ▸ S.mem2)
    have zn3 : z ≠ i3 := fun q => S.zf3 (q ▸ S.mem3)
    have tn1 : TO ≠ i1 := fun q => S.Tf1 (q ▸ S.mem1)
    have tn2 : TO ≠ i2 := fun q => S.Tf2 (q ▸ S.mem2)
    have tn3 : TO ≠ i3 := fun q => S.Tf3 (q ▸ S.mem3)
    refine wpAny_pure ⟨_, rfl, ?_⟩
    have z1 := hQ x1 x2 x3 (h3.push { cls := .type "tuple", data := .seq #[x1, x2, x3] }) t3 p1 p2 p3 ?_ ?_ ?_ ?_ ?_ ?_ ?_ ?_
    · show Q (.ref h3.objs.size) _
      rw [sz]
      exact z1
    · obtain ⟨f0', f1', hf', e⟩ := hz'
      exact ⟨f0', f1', hf', at_ _ _ zn1 zn2 zn3 e⟩
    · obtain ⟨a1, a2, a3, e⟩ := hTO
      exact ⟨a1, a2, a3, at_ _ _ tn1 tn2 tn3 ((sb.2 _ S.TOz).trans e)⟩
    · exact D1.frame _ _ _ u1 fun b hb o e => Heap.get?_push_of_some _ ((b3.2 b (fun q => S.sep3_1 (q ▸ hb))).trans ((b2.2 b (fun q => S.sep2_1 (q ▸ hb))).trans e))
    · exact D2.frame _ _ _ u2 fun b hb o e => Heap.get?_push_of_some _ ((b3.2 b (fun q => S.sep3_2 (q ▸ hb))).trans e)
    · exact D3.frame _ _ _ u3 fun b hb o e => Heap.get?_push_of_some _ e
    · rw [← sz]; exact Heap.get?_push_size _ rfl
    · rw [Heap.size_push, sz]
    · exact fun c o c1 c2 c3 c4 c5 e => at_ c o c3 c4 c5 ((sb.2 c c1).trans e)
theorem zip3_end {Q : PySem.Fin → Shared → Prop} (S : ZipSep3 z TI TO i1 i2 i3 fp1 fp2 fp3) (D1 : Draws prog w A i1 fp1 n1 P1 St1) (D2 : Draws prog w A i2 fp2 n2 P2 St2) (D3 : Draws prog w A i3 fp3 n3 P3 St3)
    (hz : ZSt s.heap z TI TO) (hTI : IsTupOf3 s.heap TI (.ref i1) (.ref i2) (.ref i3)) (hTO : ∃ a1 a2 a3, IsTupOf3 s.heap TO a1 a2 a3) (st1 : St1 i s.heap) (st2 : St2 i s.heap) (st3 : St3 i s.heap) (l1 : i ≤ n1) (l2 : i ≤ n2) (l3 : i ≤ n3) (hend : i = n1 ∨ i = n2 ∨ i = n3)
    (hE : ∀ (h' : Heap) (tk : Nat) (e : Addr), (∀ (c : Addr) (o : Obj), c ≠ z → c ≠ TO → c ≠ i1 → c ≠ i2 → c ≠ i3 → s.heap.get? c = some o → h'.get? c = some o) → (∃ o, h'.get? e = some o ∧ o.cls = .type "StopIteration") → E (.ref e) { s with heap := h', toks := tk }) :
    wpAny (model prog w) A (Builtin.«zip.__next__» ⟨[.ref z], []⟩) Q E s := by
  obtain ⟨f0, f1, hf, hzz⟩ := id hz
  have zn1 : z ≠ i1 := fun q => S.zf1 (q ▸ S.mem1)
  have zn2 : z ≠ i2 := fun q => S.zf2 (q ▸ S.mem2)
  have zn3 : z ≠ i3 := fun q => S.zf3 (q ▸ S.mem3)
  have tn1 : TO ≠ i1 := fun q => S.Tf1 (q ▸ S.mem1)
  have tn2 : TO ≠ i2 := fun q => S.Tf2 (q ▸ S.mem2)
  have tn3 : TO ≠ i3 := fun q => S.Tf3 (q ▸ S.mem3)
  unfold Builtin.«zip.__next__»
  refine wpAny_bind (m := slotArgs _ _ _) (wpAny_pure ?_)
  refine wpAny_bind (wpAny_field hzz rfl rfl ?_)
  refine wpAny_bind (wpAny_field hzz rfl rfl ?_)
  refine wpAny_bind (wpAny_seqItems hTI rfl ?_)
  dsimp only
  rw [if_neg (by simp)]
  refine wpAny_bind (zip_owned hz ?_ fun h' hz' sb => ?_)
  · rw [if_pos rfl]
    refine wpAny_bind (wpAny_rule ?_)
    refine wpAny_bind (wpAny_field hzz rfl rfl ?_)
    refine wpAny_bind (wpAny_setField hzz rfl (show 0 < 5 from Nat.lt_of_sub_pos (Nat.zero_lt_succ 4)) ?_)
    simp only [List.zipIdx_cons, List.zipIdx_nil, List.forIn_cons, List.forIn_nil, bind_assoc, pure_bind]
    obtain ⟨a1, a2, a3, eTO⟩ := hTO
    obtain ⟨G, eG⟩ : ∃ G, G = s.heap.update z (Obj.mapFields fun x => x.setIfInBounds 0 Value.ellipsis) := ⟨_, rfl⟩
    have zG : G.get? z = some { cls := .type "zip", data := .fields #[.ellipsis, .bool f1, .bool false, .ref TI, .ref TO] } := by rw [eG]; exact Heap.get?_update_self _ hzz rfl
    have bG : Heap.SameBut z s.heap G := by rw [eG]; exact sameBut_update
    rw [← eG]
    clear eG
    have stop : ∀ (h' : Heap) (tk : Nat) (e : Addr), h'.get? z = some { cls := .type "zip", data := .fields #[.ellipsis, .bool f1, .bool false, .ref TI, .ref TO] } → (∀ (c : Addr) (o : Obj), c ≠ z → c ≠ TO → c ≠ i1 → c ≠ i2 → c ≠ i3 → s.heap.get? c = some o → h'.get? c = some o) → (∃ o, h'.get? e = some o ∧ o.cls = .type "StopIteration") →
        wpAny (model prog w) A (setField (.ref z) 0 .none) (fun _ s2 => E (.ref e) s2) E { s with heap := h', toks := tk } := by
      rintro h' tk e hz2 hk ⟨o, he, hc⟩
      refine wpAny_setField hz2 rfl (show 0 < 5 from Nat.lt_of_sub_pos (Nat.zero_lt_succ 4)) ?_
      have ne : e ≠ z := fun q => by
        subst q
        rw [hz2] at he
        cases he
        exact absurd hc (show ¬ (Value.type "zip" = Value.type "StopIteration") by decide)
      exact hE _ tk e (fun c o c1 c2 c3 c4 c5 q => (sameBut_update.2 c c1).trans (hk c o c1 c2 c3 c4 c5 q)) ⟨o, (sameBut_update.2 e ne).trans he, hc⟩
    have g1 : ∀ {fp : List Addr}, z ∉ fp → ∀ b ∈ fp, ∀ o, s.heap.get? b = some o → G.get? b = some o := fun zn b hb o e => (bG.2 b (fun q => zn (q ▸ hb))).trans e
    refine wpAny_bind (wpAny_onRaise ?_)
    show wpAny _ _ (Builtin.SmallTypes.nextOf _ >>= fun y => pure (some y)) _ _ _
    have st1' := D1.frame i _ _ st1 (g1 S.zf1)
    by_cases k1 : i = n1
    · subst k1
      exact wpAny_bind (D1.done { s with heap := G } _ _ st1' fun h2 e x he => stop h2 s.toks e (x _ _ zn1 zG) (fun c o c1 _ c3 _ _ q => x _ _ c3 ((bG.2 c c1).trans q)) he)
    refine wpAny_bind (D1.item i { s with heap := G } _ _ (by omega) st1' fun x1 h1 t1 p1 u1 b1 => wpAny_pure ?_)
    have e1 : h1.get? TO = some { cls := .type "tuple", data := .seq #[a1, a2, a3] } := (b1.2 _ tn1).trans ((bG.2 _ S.TOz).trans eTO)
    refine wpAny_bind (wpAny_bind (wpAny_seqItems e1 rfl ?_))
    refine wpAny_bind (wpAny_updateSeq e1 rfl ?_ (show 3 ≤ sizeLine by decide) (show 3 ≤ sizeLine + 1 by decide))
    obtain ⟨G1, eG1⟩ : ∃ G1, G1 = h1.update TO (Obj.mapSeq fun y => y.setIfInBounds 0 x1) := ⟨_, rfl⟩
    have oG1 : G1.get? TO = some { cls := .type "tuple", data := .seq #[x1, a2, a3] } := by rw [eG1]; exact Heap.get?_update_self _ e1 rfl
    have bG1 : Heap.SameBut TO h1 G1 := by rw [eG1]; exact sameBut_update
    rw [← eG1]
    clear eG1
    refine wpAny_bind (wpAny_letGo (wpAny_pure ?_))
    refine wpAny_bind ?_
    dsimp only
    have g2 : ∀ b o, b ≠ i1 → b ≠ TO → G.get? b = some o → G1.get? b = some o := fun b o n1 n0 e => (bG1.2 b n0).trans ((b1.2 b n1).trans e)
    refine wpAny_bind (wpAny_onRaise ?_)
    show wpAny _ _ (Builtin.SmallTypes.nextOf _ >>= fun y => pure (some y)) _ _ _
    have st2' := D2.frame i _ _ st2 fun b hb o e => g2 b o (fun q => S.sep1_2 (q ▸ hb)) (fun q => S.Tf2 (q ▸ hb)) (g1 S.zf2 b hb o e)
    by_cases k2 : i = n2
    · subst k2
      exact wpAny_bind (D2.done { s with heap := G1, toks := t1 } _ _ st2' fun h2 e x he => stop h2 t1 e (x _ _ zn2 (g2 _ _ zn1 (Ne.symm S.TOz) zG)) (fun c o c1 c2 c3 c4 _ q => x _ _ c4 (g2 _ _ c3 c2 ((bG.2 c c1).trans q))) he)
    refine wpAny_bind (D2.item i { s with heap := G1, toks := t1 } _ _ (by omega) st2' fun x2 h2 t2 p2 u2 b2 => wpAny_pure ?_)
    have e2 : h2.get? TO = some { cls := .type "tuple", data := .seq #[x1, a2, a3] } := (b2.2 _ tn2).trans oG1
    refine wpAny_bind (wpAny_bind (wpAny_seqItems e2 rfl ?_))
    refine wpAny_bind (wpAny_updateSeq e2 rfl ?_ (show 3 ≤ sizeLine by decide) (show 3 ≤ sizeLine + 1 by decide))
    obtain ⟨G2, eG2⟩ : ∃ G2, G2 = h2.update TO (Obj.mapSeq fun y => y.setIfInBounds (0 + 1) x2) := ⟨_, rfl⟩
    have bG2 : Heap.SameBut TO h2 G2 := by rw [eG2]; exact sameBut_update
    rw [← eG2]
    clear eG2
    refine wpAny_bind (wpAny_letGo (wpAny_pure ?_))
    dsimp only
    have g3 : ∀ b o, b ≠ i1 → b ≠ i2 → b ≠ TO → G.get? b = some o → G2.get? b = some o := fun b o n1 n2 n0 e => (bG2.2 b n0).trans ((b2.2 b n2).trans (g2 b o n1 n0 e))
    refine wpAny_bind (wpAny_onRaise ?_)
    show wpAny _ _ (Builtin.SmallTypes.nextOf _ >>= fun y => pure (some y)) _ _ _
    have k3 : i = n3 := by omega
    subst k3
    have st3' := D3.frame i _ _ st3 fun b hb o e => g3 b o (fun q => S.sep1_3 (q ▸ hb)) (fun q => S.sep2_3 (q ▸ hb)) (fun q => S.Tf3 (q ▸ hb)) (g1 S.zf3 b hb o e)
    exact wpAny_bind (D3.done { s with heap := G2, toks := t2 } _ _ st3' fun h2 e x he => stop h2 t2 e (x _ _ zn3 (g3 _ _ zn1 zn2 (Ne.symm S.TOz) zG)) (fun c o c1 c2 c3 c4 c5 q => x _ _ c5 (g3 _ _ c3 c4 c2 ((bG.2 c c1).trans q))) he)
  · rw [if_neg Bool.false_ne_true]
    simp only [← Array.forIn_toList, List.forIn_cons, List.forIn_nil, bind_assoc, pure_bind]
    have g1 : ∀ {fp : List Addr}, z ∉ fp → ∀ b ∈ fp, ∀ o, s.heap.get? b = some o → h'.get? b = some o := fun zn b hb o e => (sb.2 b (fun q => zn (q ▸ hb))).trans e
    refine wpAny_bind (wpAny_holding ?_)
    show wpAny _ _ (Builtin.SmallTypes.nextOf _ >>= fun y => pure (some y)) _ _ _
    have st1' := D1.frame i _ _ st1 (g1 S.zf1)
    by_cases k1 : i = n1
    · subst k1
      exact wpAny_bind (D1.done { s with heap := h' } _ _ st1' fun h2 e x he => hE h2 s.toks e (fun c o c1 _ c3 _ _ q => x _ _ c3 ((sb.2 c c1).trans q)) he)
    refine wpAny_bind (D1.item i { s with heap := h' } _ _ (by omega) st1' fun x1 h1 t1 p1 u1 b1 => wpAny_pure ?_)
    refine wpAny_bind (wpAny_pure ?_)
    refine wpAny_bind ?_
    dsimp only
    have g2 : ∀ b o, b ≠ i1 → h'.get? b = some o → h1.get? b = some o := fun b o n1 e => (b1.2 b n1).trans e
    refine wpAny_bind (wpAny_holding ?_)
    show wpAny _ _ (Builtin.SmallTypes.nextOf _ >>= fun y => pure (some y)) _ _ _
    have st2' := D2.frame i _ _ st2 fun b hb o e => g2 b o (fun q => S.sep1_2 (q ▸ hb)) (g1 S.zf2 b hb o e)
    by_cases k2 : i = n2
    · subst k2
      exact wpAny_bind (D2.done { s with heap := h1, toks := t1 } _ _ st2' fun h2 e x he => hE h2 t1 e (fun c o c1 _ c3 c4 _ q => x _ _ c4 (g2 _ _ c3 ((sb.2 c c1).trans q))) he)
    refine wpAny_bind (D2.item i { s with heap := h1, toks := t1 } _ _ (by omega) st2' fun x2 h2 t2 p2 u2 b2 => wpAny_pure ?_)
    refine wpAny_bind (wpAny_pure ?_)
    dsimp only
    refine wpAny_bind (wpAny_holding ?_)
    show wpAny _ _ (Builtin.SmallTypes.nextOf _ >>= fun y => pure (some y)) _ _ _
    have k3 : i = n3 := by omega
    subst k3
    have st3' := D3.frame i _ _ st3 fun b hb o e => (b2.2 b (fun q => S.sep2_3 (q ▸ hb))).trans (g2 b o (fun q => S.sep1_3 (q ▸ hb)) (g1 S.zf3 b hb o e))
    exact wpAny_bind (D3.done { s with heap := h2, toks := t2 } _ _ st3' fun h2' e x he => hE h2' t2 e (fun c o c1 _ c3 c4 c5 q => x _ _ c5 ((b2.2 c c4).trans (g2 _ _ c3 ((sb.2 c c1).trans q)))) he)
end
/-- zip of three tuples, the target a name -/
def ItZ3 (K : PySem.W.Frag) (a b c : Addr) : It :=
  ⟨fun i H => ∃ (xs ys zs : List V) (x y z : V), SqT K H a xs ∧ SqT K H b ys ∧ SqT K H c zs ∧ xs[i]? = some x ∧ ys[i]? = some y ∧ zs[i]? = some z,
    fun i H v H' => ∃ T x y z, v = .ref T ∧ H T = none ∧ H' = upd H T (.tup [x, y, z]) ∧ (∀ xs, SqT K H a xs → xs[i]? = some x) ∧ (∀ ys, SqT K H b ys → ys[i]? = some y) ∧ ∀ zs, SqT K H c zs → zs[i]? = some z,
    fun i H => ∃ xs ys zs : List V, SqT K H a xs ∧ SqT K H b ys ∧ SqT K H c zs ∧ i ≤ xs.length ∧ i ≤ ys.length ∧ i ≤ zs.length ∧ (i = xs.length ∨ i = ys.length ∨ i = zs.length)⟩
theorem turn_zip3 {P : Program} {w : World} {K : PySem.W.Frag} {x : Str} {p : Pos} {a b c z TI TO i1 i2 i3 : Addr} (S : ZipSep3 z TI TO i1 i2 i3 [i1, a] [i2, b] [i3, c]) :
    Turn P w K (.Name x p) (ItZ3 K a b c) [z, TI, TO, i1, i2, i3] z (fun i h => ZSt h z TI TO ∧ IsTupOf3 h TI (.ref i1) (.ref i2) (.ref i3) ∧ (∃ x y u, IsTupOf3 h TO x y u) ∧ h.IsTupleIter i1 a i ∧ h.IsTupleIter i2 b i ∧ h.IsTupleIter i3 c i) where
  mem := by simp
  obj := fun i h st d hd => by
    obtain ⟨⟨f0, f1, _, hz⟩, hTI, ⟨x, y, u, hTO⟩, ⟨o1, e1, _, d1⟩, ⟨o2, e2, _, d2⟩, ⟨o3, e3, _, d3⟩⟩ := st
    simp only [List.mem_cons, List.not_mem_nil, or_false] at hd
    rcases hd with rfl | rfl | rfl | rfl | rfl | rfl
    · exact ⟨_, hz, fun v q => nomatch q⟩
    · exact ⟨_, hTI, fun v q => nomatch q⟩
    · exact ⟨_, hTO, fun v q => nomatch q⟩
    · exact ⟨o1, e1, fun v q => by rw [d1] at q; cases q⟩
    · exact ⟨o2, e2, fun v q => by rw [d2] at q; cases q⟩
    · exact ⟨o3, e3, fun v q => by rw [d3] at q; cases q⟩
  keep := fun i h h' st k => by
    obtain ⟨⟨f0, f1, hf, hz⟩, hTI, ⟨x, y, u, hTO⟩, h1, h2, h3⟩ := st
    exact ⟨⟨f0, f1, hf, k z (by simp) _ hz⟩, k TI (by simp) _ hTI, ⟨x, y, u, k TO (by simp) _ hTO⟩, h1.at fun o q => k i1 (by simp) o q, h2.at fun o q => k i2 (by simp) o q, h3.at fun o q => k i3 (by simp) o q⟩
  item := by
    intro X hP hw hK hc i pins s σ H E I hf st hg
    subst hP hw hK
    obtain ⟨hz, hTI, hTO, h1, h2, h3⟩ := st
    obtain ⟨xs, ys, zs, x, y, u, hqx, hqy, hqz, hx, hy, hu⟩ := hg
    obtain ⟨its1, rv1, p1, _⟩ := I.tuple hqx
    obtain ⟨its2, rv2, p2, _⟩ := I.tuple hqy
    obtain ⟨its3, rv3, p3, _⟩ := I.tuple hqz
    obtain ⟨w1, hw1, r1⟩ := rv1.get hx
    obtain ⟨w2, hw2, r2⟩ := rv2.get hy
    obtain ⟨w3, hw3, r3⟩ := rv3.get hu
    have p1 : s.heap.IsTuple a its1.toArray := p1
    have p2 : s.heap.IsTuple b its2.toArray := p2
    have p3 : s.heap.IsTuple c its3.toArray := p3
    have lt1 : i < its1.toArray.size := by rw [List.size_toArray]; exact (List.getElem?_eq_some_iff.mp hw1).1
    have lt2 : i < its2.toArray.size := by rw [List.size_toArray]; exact (List.getElem?_eq_some_iff.mp hw2).1
    have lt3 : i < its3.toArray.size := by rw [List.size_toArray]; exact (List.getElem?_eq_some_iff.mp hw3).1
    have hzt : s.TypeIs (.ref z) "zip" := by obtain ⟨f0, f1, _, e⟩ := hz; exact ⟨_, e, rfl⟩
    have hzl : z < s.heap.objs.size := by obtain ⟨f0, f1, _, e⟩ := hz; exact Heap.lt_size e
    refine wpAny_bind (wpAny_attempt (wpAny_callSpecial?_slot hzt F.slot_zip_next (wpAny_call_entry F.slot_zip_next hzt F.entry_zip_next
      (zip3_item S (Draws.tuple (A := X.A.in1) (I.ok.hd hc) i1 a (ne_tuple h1 p1) its1.toArray) (Draws.tuple (A := X.A.in1) (I.ok.hd hc) i2 b (ne_tuple h2 p2) its2.toArray) (Draws.tuple (A := X.A.in1) (I.ok.hd hc) i3 c (ne_tuple h3 p3) its3.toArray)
        hz hTI hTO ⟨h1, p1⟩ ⟨h2, p2⟩ ⟨h3, p3⟩ lt1 lt2 lt3 fun y1 y2 y3 h' tk g1 g2 g3 hz' hTO' st1 st2 st3 hT hsz hk => wpAny_pure ?_) (F.args_zip_next_1 (Value.ref z)))))
    have e1 : y1 = w1 := by
      have q : its1[i]? = some y1 := by simpa using g1
      rw [hw1] at q; cases q; rfl
    have e2 : y2 = w2 := by
      have q : its2[i]? = some y2 := by simpa using g2
      rw [hw2] at q; cases q; rfl
    have e3 : y3 = w3 := by
      have q : its3[i]? = some y3 := by simpa using g3
      rw [hw3] at q; cases q; rfl
    subst e1 e2 e3
    refine ⟨_, rfl, wpAny_pure ?_⟩
    have new : ObjOk X.prog X.w (upd H s.heap.objs.size (.tup [x, y, u])) h' s.heap.objs.size (.tup [x, y, u]) :=
      ⟨by show 3 ≤ sizeLine; decide, [y1, y2, y3], .cons r1 (.cons r2 (.cons r3 .nil)), ⟨_, hT, rfl, _, rfl⟩⟩
    have I1 : Inv X pins σ (upd H s.heap.objs.size (.tup [x, y, u])) { s with heap := h', toks := tk } :=
      I.turnedNew (ch := [z, TI, TO, i1, i2, i3]) (fun d ob hb q => hk d ob (fun q' => hb (by simp [q'])) (fun q' => hb (by simp [q'])) (fun q' => hb (by simp [q'])) (fun q' => hb (by simp [q'])) (fun q' => hb (by simp [q'])) q) hf (Nat.le_refl _) new
    refine ⟨.ref s.heap.objs.size, _, I1, rfl, ⟨_, x, y, u, rfl, I.hok.fresh (Nat.le_refl _), rfl, fun l hl => by rw [I.tuple_inj hl hqx]; exact hx, fun l hl => by rw [I.tuple_inj hl hqy]; exact hy, fun l hl => by rw [I.tuple_inj hl hqz]; exact hu⟩, ⟨hz', ?_, hTO', st1.1, st2.1, st3.1⟩, fun d hd => ?_⟩
    · exact hk _ _ S.TIz S.TITO S.TIi1 S.TIi2 S.TIi3 hTI
    · have hlt : d < s.heap.objs.size := by
        obtain ⟨_, _, _, eO⟩ := hTO
        simp only [List.mem_cons, List.not_mem_nil, or_false] at hd
        rcases hd with rfl | rfl | rfl | rfl | rfl | rfl
        · exact hzl
        · exact Heap.lt_size hTI
        · exact Heap.lt_size eO
        · obtain ⟨_, q, _⟩ := h1; exact Heap.lt_size q
        · obtain ⟨_, q, _⟩ := h2; exact Heap.lt_size q
        · obtain ⟨_, q, _⟩ := h3; exact Heap.lt_size q
      rw [upd_ne (Nat.ne_of_lt hlt)]
      exact (hf d hd).1
  done := by
    intro X hP hw hK hc i pins s σ H E I hf st hg
    subst hP hw hK
    obtain ⟨hz, hTI, hTO, h1, h2, h3⟩ := st
    obtain ⟨xs, ys, zs, hqx, hqy, hqz, l1, l2, l3, hend⟩ := hg
    obtain ⟨its1, rv1, p1, _⟩ := I.tuple hqx
    obtain ⟨its2, rv2, p2, _⟩ := I.tuple hqy
    obtain ⟨its3, rv3, p3, _⟩ := I.tuple hqz
    have p1 : s.heap.IsTuple a its1.toArray := p1
    have p2 : s.heap.IsTuple b its2.toArray := p2
    have p3 : s.heap.IsTuple c its3.toArray := p3
    have z1 := rv1.length
    have z2 := rv2.length
    have z3 := rv3.length
    have hzt : s.TypeIs (.ref z) "zip" := by obtain ⟨f0, f1, _, e⟩ := hz; exact ⟨_, e, rfl⟩
    refine wpAny_bind (wpAny_attempt (wpAny_callSpecial?_slot hzt F.slot_zip_next (wpAny_call_entry F.slot_zip_next hzt F.entry_zip_next
      (zip3_end S (Draws.tuple (A := X.A.in1) (I.ok.hd hc) i1 a (ne_tuple h1 p1) its1.toArray) (Draws.tuple (A := X.A.in1) (I.ok.hd hc) i2 b (ne_tuple h2 p2) its2.toArray) (Draws.tuple (A := X.A.in1) (I.ok.hd hc) i3 c (ne_tuple h3 p3) its3.toArray)
        hz hTI hTO ⟨h1, p1⟩ ⟨h2, p2⟩ ⟨h3, p3⟩ (by rw [List.size_toArray]; omega) (by rw [List.size_toArray]; omega) (by rw [List.size_toArray]; omega) (by rw [List.size_toArray, List.size_toArray, List.size_toArray]; omega) fun h' tk e hk ⟨o, ho, hcl⟩ => ?_) (F.args_zip_next_1 (Value.ref z)))))
    refine wpAny_bind (wpAny_isInstance ⟨o, ho, hcl⟩ isSubtype_stop (wpAny_pure ?_))
    exact ⟨rfl, I.turnedL (t' := tk) (ch := [z, TI, TO, i1, i2, i3]) (fun d o hb q =>
      hk d o (fun q' => hb (by simp [q'])) (fun q' => hb (by simp [q'])) (fun q' => hb (by simp [q'])) (fun q' => hb (by simp [q'])) (fun q' => hb (by simp [q'])) q) hf⟩
  self := fun A i s Q E st h => by
    obtain ⟨⟨f0, f1, _, e⟩, _⟩ := st
    have zt : s.TypeIs (.ref z) "zip" := ⟨_, e, rfl⟩
    refine wpAny_pyIter_slot zt F.slot_zip_iter (wpAny_call_entry F.slot_zip_iter zt F.entry_zip_iter ?_ (F.args_zip_iter_1 _))
    have nx := F.slot_zip_next.lookup
    exact wpAny_pure ⟨_, rfl, _, _, zt, nx, h⟩
theorem zip3Sep {n a b c : Nat} (la : a < n) (lb : b < n) (lc : c < n) : @ZipSep3 (n + 5 : Nat) (n + 3 : Nat) (n + 4 : Nat) n (n + 1 : Nat) (n + 2 : Nat) [n, a] [(n + 1 : Nat), b] [(n + 2 : Nat), c] where
  TIz := show (n + 3 : Nat) ≠ n + 5 by omega
  TOz := show (n + 4 : Nat) ≠ n + 5 by omega
  TITO := show (n + 3 : Nat) ≠ n + 4 by omega
  TIi1 := show (n + 3 : Nat) ≠ n by omega
  mem1 := List.mem_cons_self
  zf1 := nin2 (by omega) (by omega)
  Tf1 := nin2 (by omega) (by omega)
  TIi2 := show (n + 3 : Nat) ≠ n + 1 by omega
  mem2 := List.mem_cons_self
  zf2 := nin2 (by omega) (by omega)
  Tf2 := nin2 (by omega) (by omega)
  TIi3 := show (n + 3 : Nat) ≠ n + 2 by omega
  mem3 := List.mem_cons_self
  zf3 := nin2 (by omega) (by omega)
  Tf3 := nin2 (by omega) (by omega)
  sep1_2 := nin2 (by omega) (by omega)
  sep1_3 := nin2 (by omega) (by omega)
  sep2_1 := nin2 (by omega) (by omega)
  sep2_3 := nin2 (by omega) (by omega)
  sep3_1 := nin2 (by omega) (by omega)
  sep3_2 := nin2 (by omega) (by omega)
/-- zip(e, e2, e3), three tuples -/
def iZip3 (K : PySem.W.Frag) (ta : TA) : TI := fun σ H R => ta σ H fun vs H1 => ∃ a b c xs ys zs, vs = [.ref a, .ref b, .ref c] ∧ SqT K H1 a xs ∧ SqT K H1 b ys ∧ SqT K H1 c zs ∧ R (ItZ3 K a b c) H1
theorem vals3 {H : Hp} {x y z : V} {us : List Value} (r : Vals [x, y, z] us) : ∃ u1 u2 u3, us = [u1, u2, u3] ∧ RelV x u1 ∧ RelV y u2 ∧ RelV z u3 := by
  cases r with
  | cons r1 t => cases t with
    | cons r2 t => cases t with
      | cons r3 t => cases t; exact ⟨_, _, _, rfl, r1, r2, r3⟩
theorem pi_zip3 {X : Cx} {x : Str} {e e2 e3 : Expr} {ta : TA} {p pos tpos : Pos} (hg : Gl X "zip") (hm : X.mg "zip" = none) (ha : PA X [e, e2, e3] ta)
    (hs : starEach [e, e2, e3] X.env = (false, eval e X.env) :: starEach [e2, e3] X.env := by rfl) (hpl : (backTo pos (starEach [e2, e3] X.env)).any (·.1) = false := by rfl) :
    PI X (.Name x tpos) (.Call (.Name "zip" p) [e, e2, e3] [] pos) (iZip3 X.K ta) := by
  refine ⟨fun pins s σ H R I h => ?_⟩
  refine Call_ (ld_blt I hg hm PyProof.Rows.boot_zip (PyProof.Rows.callWith_type1 (thn (ha.run pos pins s σ H _ I h) fun us s1 ⟨vs, H1, I1, r1, q1⟩ => ?_) hs hpl))
  obtain ⟨a, b, c, xs, ys, zs, ex, hqx, hqy, hqz, q⟩ := q1
  subst ex
  obtain ⟨u1, u2, u3, rfl, ra, rb, rc⟩ := vals3 (H := H1) r1
  cases (show u1 = Value.ref a from ra)
  cases (show u2 = Value.ref b from rb)
  cases (show u3 = Value.ref c from rc)
  obtain ⟨its1, rv1, p1, _⟩ := I1.tuple hqx
  obtain ⟨its2, rv2, p2, _⟩ := I1.tuple hqy
  obtain ⟨its3, rv3, p3, _⟩ := I1.tuple hqz
  have p1 : s1.heap.IsTuple a its1.toArray := p1
  have p2 : s1.heap.IsTuple b its2.toArray := p2
  have p3 : s1.heap.IsTuple c its3.toArray := p3
  have lt_ : ∀ {d : Addr} {xs : Array Value}, s1.heap.IsTuple d xs → d < s1.heap.objs.size := fun q => by obtain ⟨_, z, _⟩ := q; exact Heap.lt_size z
  refine zip_begins3 (begins_tuple a its1.toArray) (begins_tuple b its2.toArray) (begins_tuple c its3.toArray) p1 p2 p3 fun h' hz hTI hTO g1 g2 g3 hsz hk => wpAny_pyIter_zip hz ?_
  have I2 : Inv X pins σ H1 { s1 with heap := h' } := I1.kept (t' := s1.toks) hk
  have S : ZipSep3 (s1.heap.objs.size + 5) (s1.heap.objs.size + 3) (s1.heap.objs.size + 4) s1.heap.objs.size (s1.heap.objs.size + 1) (s1.heap.objs.size + 2) [s1.heap.objs.size, a] [s1.heap.objs.size + 1, b] [s1.heap.objs.size + 2, c] :=
    zip3Sep (lt_ p1) (lt_ p2) (lt_ p3)
  have fp : ∀ d ∈ [s1.heap.objs.size + 5, s1.heap.objs.size + 3, s1.heap.objs.size + 4, s1.heap.objs.size, s1.heap.objs.size + 1, s1.heap.objs.size + 2], FpOk X pins H1 d := fun d hd => by
    have hle : s1.heap.objs.size ≤ d := by
      simp only [List.mem_cons, List.not_mem_nil, or_false] at hd
      show (s1.heap.objs.size : Nat) ≤ (d : Nat)
      rcases hd with rfl | rfl | rfl | rfl | rfl | rfl <;> omega
    exact I1.fpOk hle (I1.hok.fresh hle)
  exact ⟨s1.heap.objs.size + 5, [s1.heap.objs.size + 5, s1.heap.objs.size + 3, s1.heap.objs.size + 4, s1.heap.objs.size, s1.heap.objs.size + 1, s1.heap.objs.size + 2], _, _, H1, rfl, I2, turn_zip3 S, ⟨⟨_, _, .inl rfl, hz⟩, hTI, ⟨_, _, _, hTO⟩, ⟨_, g1, rfl, rfl⟩, ⟨_, g2, rfl, rfl⟩, ⟨_, g3, rfl, rfl⟩⟩, fp, q⟩
end L2
namespace DL
open PySem PySem.Spec PyProof.Rows L2
/-! ### a dict that is walked -/
section
variable {X : Cx} {st : Stmt} {e : Expr} {w : WS} {we : WE}
def wLock (w : WS) : WS := fun E env h =>
  (∃ d kvs, h d = some (.dT kvs) ∧ ∀ od vs, w ⟨fun e h' => h' d = some (.lkT od vs kvs) ∧ E.nx e (dup h' d (.dT kvs)), fun v h' => h' d = some (.lkT od vs kvs) ∧ E.rt v (dup h' d (.dT kvs)),
    fun e h' => h' d = some (.lkT od vs kvs) ∧ E.bk e (dup h' d (.dT kvs)), fun e h' => h' d = some (.lkT od vs kvs) ∧ E.ct e (dup h' d (.dT kvs)), fun _ _ _ => False⟩ env (dup h d (.lkT od vs kvs))) ∨
  (∃ d kvs, h d = some (.dK kvs) ∧ ∀ od vs, w ⟨fun e h' => h' d = some (.lkK od vs kvs) ∧ E.nx e (dup h' d (.dK kvs)), fun v h' => h' d = some (.lkK od vs kvs) ∧ E.rt v (dup h' d (.dK kvs)),
    fun e h' => h' d = some (.lkK od vs kvs) ∧ E.bk e (dup h' d (.dK kvs)), fun e h' => h' d = some (.lkK od vs kvs) ∧ E.ct e (dup h' d (.dK kvs)), fun _ _ _ => False⟩ env (dup h d (.lkK od vs kvs)))
theorem ds_lock (hs : DS X st w) : DS X st (wLock w) := ⟨fun W ck => (ps_lock (hs.ok W ck)).imp fun D σ H ⟨E, env, h, rs, rw_, q, ks⟩ => by
  rcases q with ⟨d, kvs, e, q⟩ | ⟨d, kvs, e, q⟩
  · obtain ⟨vs, hv, en, rr⟩ := rw_ _ _ e
    refine ⟨d, .dT vs, hv, True.intro, fun od => ?_⟩
    have wr : Wr (H d) := by rw [hv]; exact True.intro
    have pw : Pe H (upd H d (.frz od (.dT vs))) := Pe.wr wr
    have un : ∀ {H' : Hp} {h' : DH}, Pe (upd H d (.frz od (.dT vs))) H' → RW X.K h' H' → h' d = some (.lkT od vs kvs) → H' d = some (.frz od (.dT vs)) ∧ Pe H' (upd H' d (.dT vs)) ∧ RW X.K (dup h' d (.dT kvs)) (upd H' d (.dT vs)) := fun {H' h'} p r el => by
      obtain ⟨z1, z2, z3⟩ := r _ _ el
      have wr' : Wr (H' d) := by rw [z1]; exact True.intro
      have pw' : Pe H' (upd H' d (.dT vs)) := Pe.wr wr'
      exact ⟨z1, pw', r.set wr' (show RO X.K _ d (.dT kvs) from ⟨vs, upd_same, z2, z3.mono pw'⟩)⟩
    refine ⟨_, env, dup h d (.lkT od vs kvs), rs.mono pw, rw_.set wr (show RO X.K _ d (.lkT od vs kvs) from ⟨upd_same, en, rr.mono pw⟩), q od vs, ?_⟩
    refine ⟨fun e' h' s' H' p r1 r2 ⟨el, q'⟩ => ?_, fun v h' u H' p r rd ⟨el, q'⟩ => ?_, fun e' h' s' H' p r1 r2 ⟨el, q'⟩ => ?_, fun e' h' s' H' p r1 r2 ⟨el, q'⟩ => ?_, fun _ _ _ _ _ _ _ _ _ _ _ q' => q'.elim⟩
    · obtain ⟨z1, p2, r3⟩ := un p r2 el
      exact ⟨z1, ks.nx e' _ s' _ ((pw.trans p).trans p2) (r1.mono p2) r3 q'⟩
    · obtain ⟨z1, p2, r3⟩ := un p r el
      exact ⟨z1, ks.rt v _ u _ ((pw.trans p).trans p2) r3 (rd.mono p2) q'⟩
    · obtain ⟨z1, p2, r3⟩ := un p r2 el
      exact ⟨z1, ks.bk e' _ s' _ ((pw.trans p).trans p2) (r1.mono p2) r3 q'⟩
    · obtain ⟨z1, p2, r3⟩ := un p r2 el
      exact ⟨z1, ks.ct e' _ s' _ ((pw.trans p).trans p2) (r1.mono p2) r3 q'⟩
  · obtain ⟨vs, hv, en, rr⟩ := rw_ _ _ e
    refine ⟨d, .dK vs, hv, True.intro, fun od => ?_⟩
    have wr : Wr (H d) := by rw [hv]; exact True.intro
    have pw : Pe H (upd H d (.frz od (.dK vs))) := Pe.wr wr
    have un : ∀ {H' : Hp} {h' : DH}, Pe (upd H d (.frz od (.dK vs))) H' → RW X.K h' H' → h' d = some (.lkK od vs kvs) → H' d = some (.frz od (.dK vs)) ∧ Pe H' (upd H' d (.dK vs)) ∧ RW X.K (dup h' d (.dK kvs)) (upd H' d (.dK vs)) := fun {H' h'} p r el => by
      obtain ⟨z1, z2, z3⟩ := r _ _ el
      have wr' : Wr (H' d) := by rw [z1]; exact True.intro
      have pw' : Pe H' (upd H' d (.dK vs)) := Pe.wr wr'
      exact ⟨z1, pw', r.set wr' (show RO X.K _ d (.dK kvs) from ⟨vs, upd_same, z2, z3.mono pw'⟩)⟩
    refine ⟨_, env, dup h d (.lkK od vs kvs), rs.mono pw, rw_.set wr (show RO X.K _ d (.lkK od vs kvs) from ⟨upd_same, en, rr.mono pw⟩), q od vs, ?_⟩
    refine ⟨fun e' h' s' H' p r1 r2 ⟨el, q'⟩ => ?_, fun v h' u H' p r rd ⟨el, q'⟩ => ?_, fun e' h' s' H' p r1 r2 ⟨el, q'⟩ => ?_, fun e' h' s' H' p r1 r2 ⟨el, q'⟩ => ?_, fun _ _ _ _ _ _ _ _ _ _ _ q' => q'.elim⟩
    · obtain ⟨z1, p2, r3⟩ := un p r2 el
      exact ⟨z1, ks.nx e' _ s' _ ((pw.trans p).trans p2) (r1.mono p2) r3 q'⟩
    · obtain ⟨z1, p2, r3⟩ := un p r el
      exact ⟨z1, ks.rt v _ u _ ((pw.trans p).trans p2) r3 (rd.mono p2) q'⟩
    · obtain ⟨z1, p2, r3⟩ := un p r2 el
      exact ⟨z1, ks.bk e' _ s' _ ((pw.trans p).trans p2) (r1.mono p2) r3 q'⟩
    · obtain ⟨z1, p2, r3⟩ := un p r2 el
      exact ⟨z1, ks.ct e' _ s' _ ((pw.trans p).trans p2) (r1.mono p2) r3 q'⟩⟩
/-- a comprehension over a dict -/
def wLockE (we : WE) : WE := fun env h Q Qx =>
  (∃ d kvs, h d = some (.dT kvs) ∧ ∀ od vs, we env (dup h d (.lkT od vs kvs)) (fun v h' => h' d = some (.lkT od vs kvs) ∧ Q v (dup h' d (.dT kvs))) (fun _ _ => False)) ∨
  (∃ d kvs, h d = some (.dK kvs) ∧ ∀ od vs, we env (dup h d (.lkK od vs kvs)) (fun v h' => h' d = some (.lkK od vs kvs) ∧ Q v (dup h' d (.dK kvs))) (fun _ _ => False))
theorem de_lock (he : DE X e we) : DE X e (wLockE we) := ⟨fun W ck => (pe_lock (he.ok W ck)).imp fun σ H Q ⟨env, h, Qn, Qx, rs, rw_, q, kq, kx⟩ => by
  rcases q with ⟨d, kvs, e, q⟩ | ⟨d, kvs, e, q⟩
  · obtain ⟨vs, hv, en, rr⟩ := rw_ _ _ e
    refine ⟨d, .dT vs, hv, True.intro, fun od => ?_⟩
    have wr : Wr (H d) := by rw [hv]; exact True.intro
    have pw : Pe H (upd H d (.frz od (.dT vs))) := Pe.wr wr
    refine ⟨env, dup h d (.lkT od vs kvs), _, _, rs.mono pw, rw_.set wr (show RO X.K _ d (.lkT od vs kvs) from ⟨upd_same, en, rr.mono pw⟩), q od vs, fun v h' u H' p r rd ⟨el, q'⟩ => ?_, noX⟩
    obtain ⟨z1, z2, z3⟩ := r _ _ el
    have wr' : Wr (H' d) := by rw [z1]; exact True.intro
    have pw' : Pe H' (upd H' d (.dT vs)) := Pe.wr wr'
    exact ⟨z1, kq v _ u _ ((pw.trans p).trans pw') (r.set wr' (show RO X.K _ d (.dT kvs) from ⟨vs, upd_same, z2, z3.mono pw'⟩)) (rd.mono pw') q'⟩
  · obtain ⟨vs, hv, en, rr⟩ := rw_ _ _ e
    refine ⟨d, .dK vs, hv, True.intro, fun od => ?_⟩
    have wr : Wr (H d) := by rw [hv]; exact True.intro
    have pw : Pe H (upd H d (.frz od (.dK vs))) := Pe.wr wr
    refine ⟨env, dup h d (.lkK od vs kvs), _, _, rs.mono pw, rw_.set wr (show RO X.K _ d (.lkK od vs kvs) from ⟨upd_same, en, rr.mono pw⟩), q od vs, fun v h' u H' p r rd ⟨el, q'⟩ => ?_, noX⟩
    obtain ⟨z1, z2, z3⟩ := r _ _ el
    have wr' : Wr (H' d) := by rw [z1]; exact True.intro
    have pw' : Pe H' (upd H' d (.dK vs)) := Pe.wr wr'
    exact ⟨z1, kq v _ u _ ((pw.trans p).trans pw') (r.set wr' (show RO X.K _ d (.dK kvs) from ⟨vs, upd_same, z2, z3.mono pw'⟩)) (rd.mono pw') q'⟩⟩
end
/-! ### what a walk over it brings -/
section
variable {K : PySem.W.Frag} {H : Hp}
theorem kD_rd {k : Key} : RD K H (kD k) (kV k) := by
  cases k with
  | inl i => exact .int i
  | inr x => exact .str x
theorem ksD_rd : ∀ (ks : List Key), RDs K H (ks.map kD) (ks.map kV)
  | [] => .nil
  | k :: ks => .cons kD_rd (ksD_rd ks)
theorem rel_at {κ : Type} : ∀ {kvs : List (κ × D)} {vs : List (κ × V)} {i : Nat} {k : κ} {d : D}, vs.map (·.1) = kvs.map (·.1) → RDs K H (kvs.map (·.2)) (vs.map (·.2)) → kvs[i]? = some (k, d) → ∃ v, vs[i]? = some (k, v) ∧ RD K H d v
  | [], _, _, _, _, _, _, h => by simp at h
  | _ :: _, [], _, _, _, e, _, _ => by simp at e
  | (a, x) :: kvs, (b, y) :: vs, i, k, d, e, r, h => by
    rw [List.map_cons, List.map_cons, List.cons.injEq] at e
    have e1 : b = a := e.1
    subst e1
    rw [List.map_cons, List.map_cons] at r
    cases r with
    | cons r t =>
      cases i with
      | zero => cases h; exact ⟨y, rfl, r⟩
      | succ i => exact rel_at (i := i) e.2 t h
def pairsT (kvs : List (List Key × D)) : List D := kvs.map fun kv => .otup [.otup (kv.1.map kD), kv.2]
def pairsKD (kvs : List (Key × D)) : List D := kvs.map fun kv => .otup [kD kv.1, kv.2]
def keysTD (kvs : List (List Key × D)) : List D := kvs.map fun kv => .otup (kv.1.map kD)
def keysKD (kvs : List (Key × D)) : List D := kvs.map fun kv => kD kv.1
theorem map_at {α : Type} {f : α → D} {xs : List α} {i : Nat} {x : D} (h : (xs.map f)[i]? = some x) : ∃ a, xs[i]? = some a ∧ x = f a := by
  rw [List.getElem?_map] at h
  obtain ⟨a, e, r⟩ := Option.map_eq_some_iff.mp h
  exact ⟨a, e, r.symm⟩
end
section
variable {X : Cx} {e : Expr} {we : WE} {apos cpos tp : Pos} {tgs : List Expr} {kk : Nat}
/-- for a, b in d.items(), the keys tuples -/
def wPrT (we : WE) : WI := fun env h Q Qx => we env h (fun d h1 => ∃ p o us kvs, d = .ref p ∧ h1 p = some (.lkT o us kvs) ∧ Q ⟨pairsT kvs, fun h' => h' p = some (.lkT o us kvs)⟩ h1) Qx
theorem di_prT (he : DE X e we) (hbase : attributeBase e "items" X.env (eval e X.env) = eval e X.env := by rfl) (hline : (apos.endLine == cpos.line) = true := by rfl) : DI X (.Tuple tgs kk tp) (.Call (.Attribute e "items" apos) [] [] cpos) (wPrT we) :=
  ⟨fun W ck => (pi_pairsT (he.ok W ck) hbase hline).imp fun σ H R ⟨env, h, Qn, Qx, rs, rw_, q, kr, kx⟩ =>
    ⟨env, h, _, Qx, rs, rw_, q, fun d h1 v H1 p1 r1 rd ⟨p, o, us, kvs, ed, e1, q1⟩ => by
      subst ed
      cases rd
      obtain ⟨z1, z2, z3⟩ := r1 _ _ e1
      refine ⟨p, o, us, rfl, z1, kr _ h1 _ H1 p1 r1 (fun i H h pe rw_ g => ?_) q1⟩
      obtain ⟨y1, y2, y3⟩ := rw_ _ _ g
      have hl : us.length = kvs.length := len_rel y2
      refine ⟨fun x hx => ?_, fun hi => ⟨y1, by have hi : i = (pairsT kvs).length := hi; rw [hi]; unfold pairsT; rw [List.length_map, hl]; exact Nat.le_refl _⟩⟩
      obtain ⟨⟨k, dv⟩, ha, rfl⟩ := map_at hx
      obtain ⟨v, hv, rv⟩ := rel_at y2 y3 ha
      refine ⟨⟨y1, (List.getElem?_eq_some_iff.mp hv).1⟩, fun v' H' ⟨T, k', v2, q, c1, c2, c3, c4, c5⟩ => ?_⟩
      rw [hv] at c1
      cases c1
      subst c3 c5
      exact ⟨Pe.new c4, rw_.beside c4, .otup upd_same (.cons (.otup ((Pe.new c4).tup _ _ c2) (ksD_rd k)) (.cons (rv.mono (Pe.new c4)) .nil))⟩, kx⟩⟩
/-- the same, keys ints and texts -/
def wPrK (we : WE) : WI := fun env h Q Qx => we env h (fun d h1 => ∃ p o us kvs, d = .ref p ∧ h1 p = some (.lkK o us kvs) ∧ Q ⟨pairsKD kvs, fun h' => h' p = some (.lkK o us kvs)⟩ h1) Qx
theorem di_prK (he : DE X e we) (hbase : attributeBase e "items" X.env (eval e X.env) = eval e X.env := by rfl) (hline : (apos.endLine == cpos.line) = true := by rfl) : DI X (.Tuple tgs kk tp) (.Call (.Attribute e "items" apos) [] [] cpos) (wPrK we) :=
  ⟨fun W ck => (pi_items (he.ok W ck) hbase hline).imp fun σ H R ⟨env, h, Qn, Qx, rs, rw_, q, kr, kx⟩ =>
    ⟨env, h, _, Qx, rs, rw_, q, fun d h1 v H1 p1 r1 rd ⟨p, o, us, kvs, ed, e1, q1⟩ => by
      subst ed
      cases rd
      obtain ⟨z1, z2, z3⟩ := r1 _ _ e1
      refine ⟨p, o, us, rfl, z1, kr _ h1 _ H1 p1 r1 (fun i H h pe rw_ g => ?_) q1⟩
      obtain ⟨y1, y2, y3⟩ := rw_ _ _ g
      have hl : us.length = kvs.length := len_rel y2
      refine ⟨fun x hx => ?_, fun hi => ⟨y1, by have hi : i = (pairsKD kvs).length := hi; rw [hi]; unfold pairsKD; rw [List.length_map, hl]; exact Nat.le_refl _⟩⟩
      obtain ⟨⟨k, dv⟩, ha, rfl⟩ := map_at hx
      obtain ⟨v, hv, rv⟩ := rel_at y2 y3 ha
      refine ⟨⟨y1, (List.getElem?_eq_some_iff.mp hv).1⟩, fun v' H' ⟨T, k', v2, c1, c3, c4, c5⟩ => ?_⟩
      rw [hv] at c1
      cases c1
      subst c3 c5
      exact ⟨Pe.new c4, rw_.beside c4, .otup upd_same (.cons kD_rd (.cons (rv.mono (Pe.new c4)) .nil))⟩, kx⟩⟩
/-- for k in d -/
def wKyT (we : WE) : WI := fun env h Q Qx => we env h (fun d h1 => ∃ p o us kvs, d = .ref p ∧ h1 p = some (.lkT o us kvs) ∧ Q ⟨keysTD kvs, fun h' => h' p = some (.lkT o us kvs)⟩ h1) Qx
theorem di_kyT {tg : Expr} (he : DE X e we) : DI X tg e (wKyT we) :=
  ⟨fun W ck => (pi_keys (he.ok W ck)).imp fun σ H R ⟨env, h, Qn, Qx, rs, rw_, q, kr, kx⟩ =>
    ⟨env, h, _, Qx, rs, rw_, q, fun d h1 v H1 p1 r1 rd ⟨p, o, us, kvs, ed, e1, q1⟩ => by
      subst ed
      cases rd
      obtain ⟨z1, z2, z3⟩ := r1 _ _ e1
      refine ⟨p, o, rfl, .inr ⟨us, z1, kr _ h1 _ H1 p1 r1 (fun i H h pe rw_ g => ?_) q1⟩⟩
      obtain ⟨y1, y2, y3⟩ := rw_ _ _ g
      have hl : us.length = kvs.length := len_rel y2
      refine ⟨fun x hx => ?_, fun hi => ⟨y1, by have hi : i = (keysTD kvs).length := hi; rw [hi]; unfold keysTD; rw [List.length_map, hl]; exact Nat.le_refl _⟩⟩
      obtain ⟨⟨k, dv⟩, ha, rfl⟩ := map_at hx
      obtain ⟨v, hv, rv⟩ := rel_at y2 y3 ha
      refine ⟨⟨y1, (List.getElem?_eq_some_iff.mp hv).1⟩, fun v' H' ⟨c5, k', v2, q, c1, c3, c2⟩ => ?_⟩
      rw [hv] at c1
      cases c1
      subst c3 c5
      exact ⟨.refl _, rw_, .otup c2 (ksD_rd k)⟩, kx⟩⟩
def wKyK (we : WE) : WI := fun env h Q Qx => we env h (fun d h1 => ∃ p o us kvs, d = .ref p ∧ h1 p = some (.lkK o us kvs) ∧ Q ⟨keysKD kvs, fun h' => h' p = some (.lkK o us kvs)⟩ h1) Qx
theorem di_kyK {tg : Expr} (he : DE X e we) : DI X tg e (wKyK we) :=
  ⟨fun W ck => (pi_keys (he.ok W ck)).imp fun σ H R ⟨env, h, Qn, Qx, rs, rw_, q, kr, kx⟩ =>
    ⟨env, h, _, Qx, rs, rw_, q, fun d h1 v H1 p1 r1 rd ⟨p, o, us, kvs, ed, e1, q1⟩ => by
      subst ed
      cases rd
      obtain ⟨z1, z2, z3⟩ := r1 _ _ e1
      refine ⟨p, o, rfl, .inl ⟨us, z1, kr _ h1 _ H1 p1 r1 (fun i H h pe rw_ g => ?_) q1⟩⟩
      obtain ⟨y1, y2, y3⟩ := rw_ _ _ g
      have hl : us.length = kvs.length := len_rel y2
      refine ⟨fun x hx => ?_, fun hi => ⟨y1, by have hi : i = (keysKD kvs).length := hi; rw [hi]; unfold keysKD; rw [List.length_map, hl]; exact Nat.le_refl _⟩⟩
      obtain ⟨⟨k, dv⟩, ha, rfl⟩ := map_at hx
      obtain ⟨v, hv, rv⟩ := rel_at y2 y3 ha
      refine ⟨⟨y1, (List.getElem?_eq_some_iff.mp hv).1⟩, fun v' H' ⟨c5, k', v2, c1, c3⟩ => ?_⟩
      rw [hv] at c1
      cases c1
      subst c3 c5
      exact ⟨.refl _, rw_, kD_rd⟩, kx⟩⟩
/-- a displayed tuple, a key -/
def wTupK (ws : WA) : WE := fun env h Q Qx => ws env h (fun ds h1 => ds.length ≤ sizeLine ∧ Q (.otup ds) h1) Qx
theorem de_tupK {es : List Expr} {ws : WA} {k : Nat} {pos : Pos} (hs : DA X es ws) : DE X (.Tuple es k pos) (wTupK ws) :=
  ⟨fun W ck => (pe_tup (hs.ok W ck)).imp fun σ H Q ⟨env, h, Qn, Qx, rs, rw_, q, kq, kx⟩ =>
    ⟨env, h, _, Qx, rs, rw_, q, fun ds h1 vs H1 p1 r1 rds ⟨hl, q1⟩ => ⟨by rw [← rds.length]; exact hl, fun p hp => kq _ h1 _ _ (p1.trans (Pe.new hp)) (r1.beside hp) (.otup upd_same (rds.mono (Pe.new hp))) q1⟩, kx⟩⟩
/-- zip of three tuples -/
def zip3D (xs ys zs : List D) : List D := (xs.zip (ys.zip zs)).map fun p => .otup [p.1, p.2.1, p.2.2]
theorem zip3D_len {xs ys zs : List D} : (zip3D xs ys zs).length = min xs.length (min ys.length zs.length) := by unfold zip3D; rw [List.length_map, List.length_zip, List.length_zip]
theorem zip3D_get {xs ys zs : List D} {i : Nat} {d : D} (h : (zip3D xs ys zs)[i]? = some d) : ∃ x y z, xs[i]? = some x ∧ ys[i]? = some y ∧ zs[i]? = some z ∧ d = .otup [x, y, z] := by
  unfold zip3D at h
  obtain ⟨⟨x, y, z⟩, e, rfl⟩ := map_at h
  rw [List.getElem?_zip_eq_some] at e
  obtain ⟨e1, e2⟩ := e
  rw [List.getElem?_zip_eq_some] at e2
  exact ⟨x, y, z, e1, e2.1, e2.2, rfl⟩
def Zip3Q (ds : List D) (k : Src → Prop) : Prop := match ds with
  | [.tup xs, .tup ys, .tup zs] => k ⟨zip3D xs ys zs, fun _ => True⟩
  | _ => False
def wZip3 (ws : WA) : WI := fun env h Q Qx => ws env h (fun ds h1 => Zip3Q ds fun s => Q s h1) Qx
theorem di_zip3 {x : Str} {e2 e3 : Expr} {ws : WA} {p pos tpos : Pos} (hg : Gl X "zip") (hm : X.mg "zip" = none) (ha : DA X [e, e2, e3] ws) (hs : starEach [e, e2, e3] X.env = (false, eval e X.env) :: starEach [e2, e3] X.env := by rfl)
    (hpl : (backTo pos (starEach [e2, e3] X.env)).any (·.1) = false := by rfl) : DI X (.Name x tpos) (.Call (.Name "zip" p) [e, e2, e3] [] pos) (wZip3 ws) :=
  ⟨fun W ck => (pi_zip3 hg hm (ha.ok W ck) hs hpl).imp fun σ H R ⟨env, h, Qn, Qx, rs, rw_, q, kr, kx⟩ =>
    ⟨env, h, _, Qx, rs, rw_, q, fun ds h1 vs H1 p1 r1 rds q1 => by
      unfold Zip3Q at q1
      split at q1
      · rename_i xs ys zs
        cases rds with
        | cons rd1 t => cases t with
          | cons rd2 t => cases t with
            | cons rd3 t =>
              cases t
              obtain ⟨a, vs1, rfl, t1, s1⟩ := rd1.tup_inv
              obtain ⟨b, vs2, rfl, t2, s2⟩ := rd2.tup_inv
              obtain ⟨c, vs3, rfl, t3, s3⟩ := rd3.tup_inv
              refine ⟨a, b, c, vs1, vs2, vs3, rfl, t1.sqT, t2.sqT, t3.sqT, kr _ h1 _ H1 p1 r1 (fun i H h pe rw_ _ => ?_) q1⟩
              have w1 := pe.sqT t1.sqT
              have w2 := pe.sqT t2.sqT
              have w3 := pe.sqT t3.sqT
              refine ⟨fun d hd => ?_, fun hl => ⟨vs1, vs2, vs3, w1, w2, w3, ?_⟩⟩
              · obtain ⟨x, y, z, hx, hy, hz, rfl⟩ := zip3D_get hd
                obtain ⟨u1, g1, k1⟩ := s1.get hx
                obtain ⟨u2, g2, k2⟩ := s2.get hy
                obtain ⟨u3, g3, k3⟩ := s3.get hz
                refine ⟨⟨vs1, vs2, vs3, u1, u2, u3, w1, w2, w3, g1, g2, g3⟩, fun v' H' z => ?_⟩
                obtain ⟨T, x', y', z', rfl, hT, rfl, f1, f2, f3⟩ := z
                have f1 := f1 _ w1
                have f2 := f2 _ w2
                have f3 := f3 _ w3
                rw [g1] at f1
                rw [g2] at f2
                rw [g3] at f3
                cases f1
                cases f2
                cases f3
                have pn := Pe.new (o := .tup [u1, u2, u3]) hT
                have pp := pe.trans pn
                exact ⟨pn, rw_.beside hT, .otup upd_same (.cons (k1.mono pp) (.cons (k2.mono pp) (.cons (k3.mono pp) .nil)))⟩
              · have hl : i = (zip3D xs ys zs).length := hl
                rw [zip3D_len] at hl
                rw [← s1.length, ← s2.length, ← s3.length]
                omega
      · exact q1.elim, kx⟩⟩
end
end DL
namespace L2
open PySem PySem.Spec PyProof.Rows
/-! ### a display whose keys are tuples -/
def TPs (H : Hp) : List (List Key × V) → List (V × V) → Prop
  | [], [] => True
  | (k, v) :: kvs, (x, y) :: ps => (∃ b, x = .ref b ∧ H b = some (.tup (k.map kV))) ∧ y = v ∧ TPs H kvs ps
  | _, _ => False
def mergeT (kvs more : List (List Key × V)) : List (List Key × V) := more.foldl (fun acc kv => putK acc kv.1 kv.2) kvs
def tDispT (trs : List (TE × TE)) : TE := fun σ H Q => ∀ p, H p = none → tPairs trs σ (upd H p (.dT [])) fun ps H2 => H2 p = some (.dT []) ∧ ∃ kvs : List (List Key × V), TPs H2 kvs ps ∧ kvs.length ≤ 15 ∧ Q (.ref p) (upd H2 p (.dT (mergeT [] kvs)))
section
variable {X : Cx} {pos : Pos} {keys : List (Option Expr)} {values : List Expr} {trs : List (TE × TE)}
theorem KT_nil {H : Hp} : KT H [] [] := .nil
theorem tps_carry {H : Hp} {s2 : Shared} {P : Program} {w : World} (ok : HOk P w H s2.heap) : ∀ {kvs : List (List Key × V)} {ps : List (V × V)} {ws : List (Value × Value)}, TPs H kvs ps → VV ps ws →
    ∃ xs, CarriesH (tupleKind (mixKind P w)) s2.heap ws xs ∧ KT H kvs xs
  | [], [], _, _, .nil => ⟨[], by unfold CarriesH; trivial, .nil⟩
  | [], _ :: _, _, t, _ => t.elim
  | _ :: _, [], _, t, _ => t.elim
  | (k, v) :: kvs, (x, y) :: ps, (x', y') :: ws, ⟨⟨b, eb, hb⟩, ey, t⟩, .cons ⟨r1, r2⟩ r => by
    obtain ⟨xs, c, kt⟩ := tps_carry ok t r
    subst eb ey
    obtain rfl : x' = Value.ref b := r1
    refine ⟨(k, b, y') :: xs, ?_, .cons ⟨rfl, hb, r2⟩ kt⟩
    unfold CarriesH
    exact ⟨rfl, rfl, key_of ok hb, c⟩
theorem kt_merge {H : Hp} : ∀ {kvs : List (List Key × V)} {xs : List (List Key × Addr × Value)} {k0 : List (List Key × V)} {x0 : List (List Key × Addr × Value)}, KT H k0 x0 → KT H kvs xs → KT H (mergeT k0 kvs) (storedAllH x0 xs)
  | [], [], _, _, r, .nil => r
  | (k, v) :: kvs, (k', b, u) :: xs, k0, x0, r, .cons ⟨e1, e2, e3⟩ t => by
    have e1 : k = k' := e1
    subst e1
    exact kt_merge (kvs := kvs) (xs := xs) (r.put k e2 e3) t
theorem mergeT_len : ∀ (kvs k0 : List (List Key × V)), (mergeT k0 kvs).length ≤ k0.length + kvs.length
  | [], _ => Nat.le_refl _
  | (k, v) :: kvs, k0 => by
    have h1 := mergeT_len kvs (putK k0 k v)
    have h2 := length_putK k0 k v
    show (mergeT (putK k0 k v) kvs).length ≤ _
    rw [List.length_cons]
    omega
theorem pe_dispT (hu : X.A.units + 1 < cLine) (h : PPs X pos keys values trs) (hall : (keys.all fun x => x.isSome) = true) (hl : keys.length = values.length) (h0 : keys ≠ []) (h15 : keys.length ≤ 15) : PE X (.Dict keys values pos) (tDispT trs) := by
  refine ⟨fun pins s σ H Q I q => ?_⟩
  have hn := I.hok.fresh (Nat.le_refl s.heap.objs.size)
  have ln := pairTrees_length keys values X.env pos hall hl
  have I1 : Inv X pins σ (upd H s.heap.objs.size (.dT [])) { s with heap := s.heap.push { cls := .type "dict", data := .dict #[] } } :=
    I.laid (t' := s.toks) (fun b o e => Heap.get?_push_of_some _ e) (Nat.le_refl _) (dt_empty s.heap I.big)
  rw [arm_eval_Dict, zip_pairTrees keys values X.env pos hall hl, dictDisplay_pairs _ (fun e => h0 (List.length_eq_zero_iff.mp (by rw [← ln, e]; rfl))) (by rw [ln]; omega)]
  refine wpAny_bind (wpAny_standAt (wpAny_bind (wpAny_subDictH (knd := tupleKind (mixKind X.prog X.w)) (show X.A.units < cLine by omega) (by rw [ln]; exact h15) (thn (h.run pins _ σ _ _ I1 (q _ hn)) fun ws s2 h2 => ?_))))
  obtain ⟨ps, H2, I2, rel, eD, kvs, tp, lk, q2⟩ := h2
  obtain ⟨xs, ca, kt⟩ := tps_carry I2.hok tp rel
  obtain ⟨z, ns, x0, rel0, dd⟩ := dt_of I2.hok eD
  have ex0 : x0 = [] := by cases rel0; rfl
  subst ex0
  refine ⟨xs, ca, dd, fun h' tk ⟨ob, es, ep, c1, c2, c3, c4, c5, c6⟩ sb => wpAny_pure ?_⟩
  have km := kt_merge KT_nil kt
  have lm := mergeT_len kvs []
  have fin : Inv X pins σ (upd H2 s.heap.objs.size (.dT (mergeT [] kvs))) { s2 with heap := h', toks := tk } := d_write I2 (by rw [eD]; exact True.intro) sb ⟨ob, c1⟩ ⟨?_, ns, _, km.keeps fun c ys ec => ?_, ob, es, ep, c1, c2, c3, c4, c6⟩
  · exact ⟨.ref s.heap.objs.size, _, fin, rfl, q2⟩
  · rw [List.length_nil] at lm
    rw [sizeLine_eq]
    omega
  · rw [upd_ne (ne_of ec eD (fun z => nomatch z))]; exact ec
end
/-! ### a comprehension in a comprehension -/
theorem blkOk_in {N : List Str} {sc0 sc : Scope} {own : List (Str × Nat)} {cl : List (Str × Addr)} {C : Addr} {env : Env} (h : blkC N sc0 sc own = true) : BlkOk N (compEnvC sc0 cl C env).scope sc own := by
  have B := blkOk_by h
  refine ⟨B.kind, B.uniq, B.ix, fun y hy e => ?_, B.own⟩
  have key : ∀ (L : List (Str × NameKind)) (x : Str), (L.lookup x = some .cell ∨ L.lookup x = some .free) →
      (L.map fun p => match p with | (n, k) => if (k == .free && env.scope.kind == .function && env.kindOf n == some .cell) = true then (n, NameKind.cell) else (n, k)).lookup x = some .cell ∨
      (L.map fun p => match p with | (n, k) => if (k == .free && env.scope.kind == .function && env.kindOf n == some .cell) = true then (n, NameKind.cell) else (n, k)).lookup x = some .free := by
    intro L x
    induction L with
    | nil => intro h; simp at h
    | cons p L ih =>
      obtain ⟨n, k⟩ := p
      intro h
      rw [List.map_cons]
      dsimp only
      by_cases c : (k == .free && env.scope.kind == .function && env.kindOf n == some .cell) = true
      · rw [if_pos c]
        rw [List.lookup_cons] at h ⊢
        by_cases z : (x == n) = true
        · rw [z]; exact .inl rfl
        · rw [Bool.not_eq_true] at z
          rw [z] at h ⊢
          exact ih h
      · rw [if_neg c]
        rw [List.lookup_cons] at h ⊢
        by_cases z : (x == n) = true
        · rw [z] at h ⊢; exact h
        · rw [Bool.not_eq_true] at z
          rw [z] at h ⊢
          exact ih h
  exact key sc0.names y.1 (B.free y hy e)
end L2
namespace DL
open PySem PySem.Spec PyProof.Rows L2
theorem keyD_kD (k : Key) : keyD (kD k) = some k := by cases k <;> rfl
theorem keysD_map : ∀ (ks : List Key), keysD (ks.map kD) = some ks
  | [] => rfl
  | k :: ks => by rw [List.map_cons, keysD, keyD_kD, keysD_map ks]
theorem keyT_map (ks : List Key) : keyT (.otup (ks.map kD)) = some ks := keysD_map ks
/-! ### dict comprehensions over single names, the keys tuples -/
section
variable {X : Cx} {kx vx iter : Expr} {ifs : List Expr} {scope : Scope} {x : Str} {pos pp : Pos} {wi : WI} {wt : WT} {wk wv : WE} {i : Nat}
def dcT (p : Addr) (gd : DH → Prop) (i : Nat) (wt : WT) (wk wv : WE) (env : Ev) (Q : DH → Prop) : List D → DH → Prop
  | [], h => Q h
  | d :: xs, h => wt (env.set i (some d)) h (fun b h2 => if b = true then wk (env.set i (some d)) h2 (fun y1 h3 => wv (env.set i (some d)) h3 (fun z1 h4 =>
      ∃ k kvs, keyT y1 = some k ∧ h4 p = some (.dT kvs) ∧ kvs.length < sizeLine ∧ gd (dup h4 p (.dT (putK2 kvs k z1))) ∧ dcT p gd i wt wk wv env Q xs (dup h4 p (.dT (putK2 kvs k z1)))) (fun _ _ => False)) (fun _ _ => False)
      else gd h2 ∧ dcT p gd i wt wk wv env Q xs h2) (fun _ _ => False)
def DcT (i : Nat) (wt : WT) (wk wv : WE) (env : Ev) (Q : QD) (s : Src) (h1 : DH) : Prop := ∀ p, h1 p = none → s.gd (dup h1 p (.dT [])) ∧ dcT p s.gd i wt wk wv env (fun h2 => Q (.ref p) h2) s.xs (dup h1 p (.dT []))
def wDcT (wi : WI) (i : Nat) (wt : WT) (wk wv : WE) : WE := fun env h Q Qx => wi env h (fun s h1 => DcT i wt wk wv env Q s h1) Qx
theorem dcT_imp {K : PySem.W.Frag} {W : WX} {σ : L2.St} {H : Hp} {Q : VK} (h : tE K W (wDcT wi i wt wk wv) σ H Q) :
    tDcT (tI K W wi) (gName i) (tT K (fun _ _ _ _ => False) wt) (tE K (fun _ _ _ _ => False) wk) (tE K (fun _ _ _ _ => False) wv) [i] σ H Q := by
  obtain ⟨env, h, Qn, Qx, rs, rw_, q, kq, kx⟩ := h
  refine ⟨env, h, _, Qx, rs, rw_, q, fun s h1 J H1 p1 r1 it q1 => fun p hp => ?_, kx⟩
  obtain ⟨gd1, q2⟩ := q1 p (r1.fresh hp)
  have pn : Pe H1 (upd H1 p (.dT [])) := Pe.new hp
  refine ⟨fun k m H' => m = s.xs.length - k ∧ k ≤ s.xs.length ∧ ∃ h', Pe (upd H1 p (.dT [])) H' ∧ RW K h' H' ∧ s.gd h' ∧ dcT p s.gd i wt wk wv env (fun h2 => Qn (.ref p) h2) (s.xs.drop k) h',
    ⟨s.xs.length, by simp, Nat.zero_le _, _, .refl _, r1.new hp (show RO K _ p (.dT []) from ⟨[], upd_same, rfl, .nil⟩), gd1, by simpa using q2⟩, ?_⟩
  rintro k m H2 ⟨rfl, hle, h2, p2, r2, gd2, q3⟩
  have pp := pn.trans p2
  by_cases hlt : k < s.xs.length
  · have hx : s.xs[k]? = some s.xs[k] := List.getElem?_eq_getElem hlt
    obtain ⟨go, yl⟩ := (it k H2 h2 pp r2 gd2).1 _ hx
    rw [List.drop_eq_getElem_cons hlt] at q3
    refine .inr ⟨go, fun H' => ∃ h', Pe (upd H1 p (.dT [])) H' ∧ RW K h' H' ∧ s.gd h' ∧ dcT p s.gd i wt wk wv env (fun h2 => Qn (.ref p) h2) (s.xs.drop (k + 1)) h', fun H' z => ⟨s.xs.length - (k + 1), by omega, rfl, hlt, z⟩, fun v H3 y => ?_⟩
    obtain ⟨p3, r3, rd3⟩ := yl v H3 y
    have ew : ((wipe σ [i]).set i (some v)) = σ.set i (some v) := by show (σ.set i none).set i (some v) = _; rw [List.set_set]
    have rs3 : RS K H3 (env.set i (some s.xs[k])) ((wipe σ [i]).set i (some v)) := by rw [ew]; exact (rs.mono (p1.trans (pp.trans p3))).set i rd3
    refine ⟨by rw [ew]; show (σ.set i (some v)).set i none = σ.set i none; rw [List.set_set], _, h2, _, _, rs3, r3, q3, fun b h4 H4 p4 r4 q4 => ?_, noX⟩
    cases b with
    | false =>
      rw [if_neg Bool.false_ne_true] at q4 ⊢
      exact ⟨h4, p2.trans (p3.trans p4), r4, q4.1, q4.2⟩
    | true =>
      rw [if_pos rfl] at q4 ⊢
      refine ⟨_, h4, _, _, rs3.mono p4, r4, q4, fun d h5 u H5 p5 r5 rd5 q5 => ⟨_, h5, _, _, (rs3.mono p4).mono p5, r5, q5, fun d6 h6 u6 H6 p6 r6 rd6 q6 => ?_, noX⟩, noX⟩
      obtain ⟨ky, kvs, ek, e6, hz, g6, q7⟩ := q6
      obtain ⟨vs, hv, en, rr⟩ := r6 _ _ e6
      obtain ⟨n2, r2'⟩ := put2_rel (k := ky) rd6 en rr
      have w : Wr (H6 p) := by rw [hv]; exact True.intro
      have pw : Pe H6 (upd H6 p (.dT (putK vs ky u6))) := Pe.wr w
      obtain ⟨kb, ekb, hkb⟩ := keyT_ok (rd5.mono p6) ek
      exact ⟨vs, ky, kb, ekb, hkb, hv, by rw [len_rel en]; exact hz, _, p2.trans (p3.trans (p4.trans (p5.trans (p6.trans pw)))), r6.set w (show RO K _ p (.dT (putK2 kvs ky d6)) from ⟨_, upd_same, n2, r2'.mono pw⟩), g6, q7⟩
  · have e : k = s.xs.length := by omega
    subst e
    rw [List.drop_length] at q3
    exact .inl ⟨(it _ H2 h2 pp r2 gd2).2 rfl, kq (.ref p) h2 (.ref p) H2 (p1.trans pp) r2 (.ref p) q3⟩
theorem de_dcT (hu : X.A.units + 1 < cLine) (hN : X.N.Nodup) (hi : DI X (.Name x pp) iter wi) (ok : BlkOk X.N X.env.scope scope [(x, i)])
    (hg : ∀ (s : Shared) (H : Hp) (C : Addr) (cl : List (Str × Addr)) (fp : List Addr), PG (X.blk s H scope (compEnvC scope cl C X.env) fp) (.Name x pp) (gName i))
    (ht : ∀ (s : Shared) (H : Hp) (C : Addr) (cl : List (Str × Addr)) (fp : List Addr), DTs (X.blk s H scope (compEnvC scope cl C X.env) fp) ifs wt)
    (hk : ∀ (s : Shared) (H : Hp) (C : Addr) (cl : List (Str × Addr)) (fp : List Addr), DE (X.blk s H scope (compEnvC scope cl C X.env) fp) kx wk)
    (he : ∀ (s : Shared) (H : Hp) (C : Addr) (cl : List (Str × Addr)) (fp : List Addr), DE (X.blk s H scope (compEnvC scope cl C X.env) fp) vx wv)
    (hc : X.calm = true := by rfl) (hs : ∀ x, foldedSetIterable iter X.env x = pure x := by intro _; rfl) : DE X (.DictComp kx vx [⟨.Name x pp, iter, ifs, 0⟩] scope pos) (wDcT wi i wt wk wv) :=
  ⟨fun W ck => (pe_dcT (own := [(x, i)]) hu hc hN (hi.ok W ck) ok hg (fun s H C cl fp => (ht s H C cl fp).ok _ cok_blk) (fun s H C cl fp => (hk s H C cl fp).ok _ cok_blk) (fun s H C cl fp => (he s H C cl fp).ok _ cok_blk) hs).imp fun σ H Q h => dcT_imp h⟩
theorem dcT_i {p : Addr} {gd : DH → Prop} {env : Ev} {Q : DH → Prop} {xs : List D} (J : Nat → DH → Prop) (hn : ∀ hh, J xs.length hh → Q hh)
    (hs : ∀ (k : Nat) (d : D) (hh : DH) (N : DH → Prop), xs[k]? = some d → J k hh → (∀ h', J (k + 1) h' → N h') →
      wt (env.set i (some d)) hh (fun b h2 => if b = true then wk (env.set i (some d)) h2 (fun y1 h3 => wv (env.set i (some d)) h3 (fun z1 h4 =>
      ∃ k kvs, keyT y1 = some k ∧ h4 p = some (.dT kvs) ∧ kvs.length < sizeLine ∧ gd (dup h4 p (.dT (putK2 kvs k z1))) ∧ N (dup h4 p (.dT (putK2 kvs k z1)))) (fun _ _ => False)) (fun _ _ => False)
      else gd h2 ∧ N h2) (fun _ _ => False)) :
    ∀ hh, J 0 hh → dcT p gd i wt wk wv env Q xs hh := by
  have go : ∀ (ys : List D) (k : Nat), ys = xs.drop k → k ≤ xs.length → ∀ h, J k h → dcT p gd i wt wk wv env Q ys h := by
    intro ys
    induction ys with
    | nil =>
      intro k e hk h hJ
      have : xs.length ≤ k := by simpa using e.symm
      have z : k = xs.length := by omega
      subst z
      exact hn h hJ
    | cons y ys ih =>
      intro k e hk h hJ
      have hlt : k < xs.length := by
        rcases Nat.lt_or_ge k xs.length with q | q
        · exact q
        · rw [List.drop_eq_nil_of_le q] at e; cases e
      have e1 := List.drop_eq_getElem_cons hlt
      rw [e1] at e
      obtain ⟨e2, e3⟩ := List.cons.inj e
      have hx : xs[k]? = some y := by rw [List.getElem?_eq_getElem hlt, e2]
      exact hs k y h (fun h' => dcT p gd i wt wk wv env Q ys h') hx hJ fun h' hJ' => ih (k + 1) e3 hlt h' hJ'
  exact fun hh hJ => go xs 0 rfl (Nat.zero_le _) hh hJ
/-- over anything, new lists may come -/
theorem dcT_go {env : Ev} {Q : QD} {s : Src} {h1 : DH} (f : Nat → List Key × D) (hgd : ∀ h', Sub h1 h' → s.gd h') (hl : s.xs.length < sizeLine)
    (hk : ∀ (k : Nat) (x : D) (h' : DH) (R : QD), s.xs[k]? = some x → Sub h1 h' → (∀ h'', Sub h' h'' → R (.otup ((f k).1.map kD)) h'') → wk (env.set i (some x)) h' R (fun _ _ => False))
    (hv : ∀ (k : Nat) (x : D) (h' : DH) (R : QD), s.xs[k]? = some x → Sub h1 h' → (∀ h'', Sub h' h'' → R (f k).2 h'') → wv (env.set i (some x)) h' R (fun _ _ => False))
    (q : ∀ p h', h1 p = none → Sub h1 h' → h' p = some (.dT (dictOf f s.xs.length)) → Q (.ref p) h') : DcT i wYes wk wv env Q s h1 := by
  intro p fp
  refine ⟨hgd _ (Sub.new fp), dcT_i (fun j hh => Sub h1 hh ∧ hh p = some (.dT (dictOf f j)) ∧ j ≤ s.xs.length) ?_ ?_ _ ⟨Sub.new fp, dup_same, Nat.zero_le _⟩⟩
  · rintro hh ⟨sb, e, _⟩
    exact q p hh fp sb e
  · rintro k d hh N hx ⟨sb, e, hj⟩ hN
    have hj' : k < s.xs.length := (List.getElem?_eq_some_iff.mp hx).1
    unfold wYes
    dsimp only
    rw [if_pos rfl]
    refine hk k d hh _ hx sb fun h2 sb2 => hv k d h2 _ hx (sb.trans sb2) fun h3 sb3 => ?_
    refine ⟨(f k).1, dictOf f k, ?_, sb3 _ _ (sb2 _ _ e), ?_, hgd _ (sub_dup0 ((sb.trans sb2).trans sb3) fp), hN _ ⟨sub_dup0 ((sb.trans sb2).trans sb3) fp, dup_same, hj'⟩⟩
    · exact keyT_map _
    · have := dictOf_len f k; omega
theorem dcT_up {env : Ev} {Q : QD} {gd : DH → Prop} {h1 : DH} {lo : Int} {n : Nat} (f : Nat → List Key × D) (hgd : ∀ h', Sub h1 h' → gd h') (hl : n < sizeLine)
    (hk : ∀ (k : Nat) (h' : DH) (R : QD), k < n → Sub h1 h' → (∀ h'', Sub h' h'' → R (.otup ((f k).1.map kD)) h'') → wk (env.set i (some (.int (lo + (k : Nat))))) h' R (fun _ _ => False))
    (hv : ∀ (k : Nat) (h' : DH) (R : QD), k < n → Sub h1 h' → (∀ h'', Sub h' h'' → R (f k).2 h'') → wv (env.set i (some (.int (lo + (k : Nat))))) h' R (fun _ _ => False))
    (q : ∀ p h', h1 p = none → Sub h1 h' → h' p = some (.dT (dictOf f n)) → Q (.ref p) h') : DcT i wYes wk wv env Q ⟨upto lo n, gd⟩ h1 := by
  refine dcT_go f hgd (by rw [upto_len]; exact hl) (fun k x h' R hx sb kk => ?_) (fun k x h' R hx sb kk => ?_) (by rw [upto_len]; exact q)
  · obtain ⟨hj, rfl⟩ := upto_get hx
    exact hk k h' R hj sb kk
  · obtain ⟨hj, rfl⟩ := upto_get hx
    exact hv k h' R hj sb kk
theorem zEDcT {env : Ev} {h : DH} {Q : QD} {Qx : QX} : wDcT wi i wt wk wv env h Q Qx = wi env h (fun s h1 => DcT i wt wk wv env Q s h1) Qx := rfl
end
/-! ### a display whose keys are tuples -/
def pairsTK : List (D × D) → Option (List (List Key × D))
  | [] => some []
  | (x, y) :: r => match keyT x, pairsTK r with
    | some k, some ks => some ((k, y) :: ks)
    | _, _ => none
theorem pairsTK_ok {K : PySem.W.Frag} {H : Hp} : ∀ {ds : List (D × D)} {vs : List (V × V)} {kvs : List (List Key × D)}, RPs K H ds vs → pairsTK ds = some kvs → ∃ us : List (List Key × V), TPs H us vs ∧ us.map (·.1) = kvs.map (·.1) ∧ RDs K H (kvs.map (·.2)) (us.map (·.2))
  | _, _, _, .nil, e => by cases e; exact ⟨[], trivial, rfl, .nil⟩
  | (x, y) :: ds, (u, v) :: vs, kvs, .cons r1 r2 t, e => by
    rw [pairsTK] at e
    split at e
    · rename_i k ks e1 e2
      cases e
      obtain ⟨us, h1, h2, h3⟩ := pairsTK_ok t e2
      obtain ⟨b, eb, hb⟩ := keyT_ok r1 e1
      exact ⟨(k, v) :: us, ⟨⟨b, eb, hb⟩, rfl, h1⟩, by rw [List.map_cons, List.map_cons, h2], .cons r2 h3⟩
    · cases e
theorem pairsTK_len : ∀ {ds : List (D × D)} {kvs : List (List Key × D)}, pairsTK ds = some kvs → ds.length = kvs.length
  | [], _, e => by cases e; rfl
  | (x, y) :: ds, kvs, e => by
    rw [pairsTK] at e
    split at e
    · rename_i k ks e1 e2
      cases e
      rw [List.length_cons, List.length_cons, pairsTK_len e2]
    · cases e
def mergeTD (kvs more : List (List Key × D)) : List (List Key × D) := more.foldl (fun acc kv => putK2 acc kv.1 kv.2) kvs
theorem mergeT_rel {K : PySem.W.Frag} {H : Hp} : ∀ {ms : List (List Key × D)} {us : List (List Key × V)} {kvs : List (List Key × D)} {vs : List (List Key × V)}, us.map (·.1) = ms.map (·.1) → RDs K H (ms.map (·.2)) (us.map (·.2)) → vs.map (·.1) = kvs.map (·.1) → RDs K H (kvs.map (·.2)) (vs.map (·.2)) →
    (mergeT vs us).map (·.1) = (mergeTD kvs ms).map (·.1) ∧ RDs K H ((mergeTD kvs ms).map (·.2)) ((mergeT vs us).map (·.2))
  | [], [], _, _, _, _, e, r => ⟨e, r⟩
  | [], _ :: _, _, _, e, _, _, _ => by simp at e
  | _ :: _, [], _, _, e, _, _, _ => by simp at e
  | (a, d) :: ms, (b, v) :: us, kvs, vs, e, r, e2, r2 => by
    rw [List.map_cons, List.map_cons, List.cons.injEq] at e
    have e1 : b = a := e.1
    subst e1
    rw [List.map_cons, List.map_cons] at r
    cases r with
    | cons r t =>
      obtain ⟨i1, i2⟩ := put2_rel (k := b) r e2 r2
      exact mergeT_rel (ms := ms) (us := us) e.2 t i1 i2
section
variable {X : Cx} {pos : Pos}
def wDispT (ws : List (WE × WE)) : WE := fun env h Q Qx => ∀ p, h p = none → wPs ws env (dup h p (.dT [])) (fun ds h2 => h2 p = some (.dT []) ∧ ds.length ≤ 15 ∧ ∃ kvs, pairsTK ds = some kvs ∧ Q (.ref p) (dup h2 p (.dT (mergeTD [] kvs)))) Qx
theorem de_dispT (hu : X.A.units + 1 < cLine) {keys : List (Option Expr)} {values : List Expr} {ws : List (WE × WE)} (hp : DPs X pos keys values ws) (hall : keys.all (·.isSome) = true := by rfl) (hl : keys.length = values.length := by rfl) (h0 : keys ≠ [] := by exact fun z => by cases z) (h15 : keys.length ≤ 15 := by decide) :
    DE X (.Dict keys values pos) (wDispT ws) :=
  ⟨fun W ck => (pe_dispT hu (hp.ok W ck) hall hl h0 h15).imp fun σ H Q ⟨env, h, Qn, Qx, rs, rw_, q, kq, kx⟩ p hp => by
    have pn : Pe H (upd H p (.dT [])) := Pe.new hp
    refine tPairs_ok ws (rs.mono pn) (rw_.new hp (show RO X.K _ p (.dT []) from ⟨[], upd_same, rfl, .nil⟩)) (q p (rw_.fresh hp)) (fun ds h2 vs H2 p2 r2 rds ⟨e2, lz, kvs, ek, q2⟩ => ?_) (kx.mono pn)
    obtain ⟨us, tp, n2, ru⟩ := pairsTK_ok rds ek
    obtain ⟨vs0, hv0, n0, r0⟩ := r2 _ _ e2
    have en : vs0 = [] := by cases vs0 with | nil => rfl | cons a b => simp at n0
    subst en
    have wr : Wr (H2 p) := by rw [hv0]; exact True.intro
    have pw : Pe H2 (upd H2 p (.dT (mergeT [] us))) := Pe.wr wr
    obtain ⟨m1, m2⟩ := mergeT_rel (vs := []) (kvs := []) n2 ru rfl .nil
    have ll : us.length ≤ 15 := by
      have a1 := len_rel n2
      have a2 := pairsTK_len ek
      omega
    exact ⟨hv0, us, tp, ll, kq _ _ _ _ (pn.trans (p2.trans pw)) (r2.set wr (show RO X.K _ p (.dT (mergeTD [] kvs)) from ⟨_, upd_same, m1, m2.mono pw⟩)) (.ref p) q2⟩⟩
end
end DL
namespace DL
open PySem PySem.Spec PyProof.Rows L2
/-! ### steps of the walk: dicts that are walked, keys that are tuples -/
/-- the heap less one object -/
def del (h : DH) (p : Addr) : DH := fun b => if b = p then none else h b
theorem del_at {h : DH} {p a : Addr} {o : DO} (ne : a ≠ p) (e : h a = some o) : del h p a = some o := by unfold del; rw [if_neg ne]; exact e
theorem del_none {h : DH} {p : Addr} : del h p p = none := by unfold del; rw [if_pos rfl]
theorem del_sub {h : DH} {p : Addr} : Sub (del h p) h := fun a o e => by
  unfold del at e
  by_cases z : a = p
  · rw [if_pos z] at e; cases e
  · rw [if_neg z] at e; exact e
theorem del_dup {h : DH} {p : Addr} {o : DO} : Sub (del h p) (dup h p o) := fun a u e => by
  unfold del at e
  by_cases z : a = p
  · rw [if_pos z] at e; cases e
  · rw [if_neg z] at e; rw [dup_ne z]; exact e
theorem back_sub {h h' : DH} {p : Addr} {o : DO} (e : h p = some o) (s : Sub (del h p) h') : Sub h (dup h' p o) := fun a u q => by
  by_cases z : a = p
  · subst z; rw [e] at q; cases q; exact dup_same
  · rw [dup_ne z]; exact s _ _ (del_at z q)
theorem sub_del {h hL : DH} {p a : Addr} {o : DO} (s : Sub (del h p) hL) (ne : a ≠ p) (e : h a = some o) : hL a = some o := s _ _ (del_at ne e)
section
variable {w : WS} {we : WE} {E : En} {env : Ev} {h : DH} {p : Addr} {Q : QD} {Qx : QX}
theorem lock_T {kvs : List (List Key × D)} (hp : h p = some (.dT kvs))
    (q : ∀ od vs hL (N : Ev → DH → Prop) (R : QD) (B C : Ev → DH → Prop), Sub (del h p) hL → hL p = some (.lkT od vs kvs) →
      (∀ e h', Sub hL h' → (∀ h3, Sub h h3 → h3 p = some (.dT kvs) → (∀ a o, a ≠ p → h' a = some o → h3 a = some o) → E.nx e h3) → N e h') →
      (∀ v h', Sub hL h' → (∀ h3, Sub h h3 → h3 p = some (.dT kvs) → (∀ a o, a ≠ p → h' a = some o → h3 a = some o) → E.rt v h3) → R v h') → w ⟨N, R, B, C, fun _ _ _ => False⟩ env hL) : wLock w E env h :=
  .inl ⟨p, kvs, hp, fun od vs => q od vs _ _ _ _ _ del_dup dup_same
    (fun e h' s k => ⟨s _ _ dup_same, k _ (back_sub hp (del_dup.trans s)) dup_same fun a o ne q => by rw [dup_ne ne]; exact q⟩)
    (fun v h' s k => ⟨s _ _ dup_same, k _ (back_sub hp (del_dup.trans s)) dup_same fun a o ne q => by rw [dup_ne ne]; exact q⟩)⟩
theorem lock_K {kvs : List (Key × D)} (hp : h p = some (.dK kvs))
    (q : ∀ od vs hL (N : Ev → DH → Prop) (R : QD) (B C : Ev → DH → Prop), Sub (del h p) hL → hL p = some (.lkK od vs kvs) →
      (∀ e h', Sub hL h' → (∀ h3, Sub h h3 → h3 p = some (.dK kvs) → (∀ a o, a ≠ p → h' a = some o → h3 a = some o) → E.nx e h3) → N e h') →
      (∀ v h', Sub hL h' → (∀ h3, Sub h h3 → h3 p = some (.dK kvs) → (∀ a o, a ≠ p → h' a = some o → h3 a = some o) → E.rt v h3) → R v h') → w ⟨N, R, B, C, fun _ _ _ => False⟩ env hL) : wLock w E env h :=
  .inr ⟨p, kvs, hp, fun od vs => q od vs _ _ _ _ _ del_dup dup_same
    (fun e h' s k => ⟨s _ _ dup_same, k _ (back_sub hp (del_dup.trans s)) dup_same fun a o ne q => by rw [dup_ne ne]; exact q⟩)
    (fun v h' s k => ⟨s _ _ dup_same, k _ (back_sub hp (del_dup.trans s)) dup_same fun a o ne q => by rw [dup_ne ne]; exact q⟩)⟩
/-- the walk may write lists that it holds: hB less the dict stays -/
theorem lock_Kw {kvs : List (Key × D)} (hp : h p = some (.dK kvs))
    (q : ∀ od vs hL (N : Ev → DH → Prop) (R : QD) (B C : Ev → DH → Prop), Sub (del h p) hL → (∀ a o, a ≠ p → h a = some o → hL a = some o) → hL p = some (.lkK od vs kvs) →
      (∀ e h', h' p = some (.lkK od vs kvs) → (∀ h3, (∀ a, a ≠ p → h3 a = h' a) → h3 p = some (.dK kvs) → E.nx e h3) → N e h') → w ⟨N, R, B, C, fun _ _ _ => False⟩ env hL) : wLock w E env h :=
  .inr ⟨p, kvs, hp, fun od vs => q od vs _ _ _ _ _ del_dup (fun a o ne e => by rw [dup_ne ne]; exact e) dup_same
    (fun e h' s k => ⟨s, k _ (fun a ne => dup_ne ne) dup_same⟩)⟩
theorem lockE_T {kvs : List (List Key × D)} (hp : h p = some (.dT kvs))
    (q : ∀ od vs hL (R : QD), Sub (del h p) hL → hL p = some (.lkT od vs kvs) →
      (∀ v h', Sub hL h' → (∀ h3, Sub h h3 → h3 p = some (.dT kvs) → (∀ a o, a ≠ p → h' a = some o → h3 a = some o) → Q v h3) → R v h') → we env hL R (fun _ _ => False)) : wLockE we env h Q Qx :=
  .inl ⟨p, kvs, hp, fun od vs => q od vs _ _ del_dup dup_same
    (fun v h' s k => ⟨s _ _ dup_same, k _ (back_sub hp (del_dup.trans s)) dup_same fun a o ne q => by rw [dup_ne ne]; exact q⟩)⟩
theorem lockE_K {kvs : List (Key × D)} (hp : h p = some (.dK kvs))
    (q : ∀ od vs hL (R : QD), Sub (del h p) hL → hL p = some (.lkK od vs kvs) →
      (∀ v h', Sub hL h' → (∀ h3, Sub h h3 → h3 p = some (.dK kvs) → (∀ a o, a ≠ p → h' a = some o → h3 a = some o) → Q v h3) → R v h') → we env hL R (fun _ _ => False)) : wLockE we env h Q Qx :=
  .inr ⟨p, kvs, hp, fun od vs => q od vs _ _ del_dup dup_same
    (fun v h' s k => ⟨s _ _ dup_same, k _ (back_sub hp (del_dup.trans s)) dup_same fun a o ne q => by rw [dup_ne ne]; exact q⟩)⟩
end
def LkT (h : DH) (d : D) (k : Addr → Obj → List (List Key × V) → List (List Key × D) → Prop) : Prop := ∃ p o us kvs, d = .ref p ∧ h p = some (.lkT o us kvs) ∧ k p o us kvs
def LkK (h : DH) (d : D) (k : Addr → Obj → List (Key × V) → List (Key × D) → Prop) : Prop := ∃ p o us kvs, d = .ref p ∧ h p = some (.lkK o us kvs) ∧ k p o us kvs
theorem lkT_i {h : DH} {p : Addr} {o : Obj} {us : List (List Key × V)} {kvs : List (List Key × D)} {k : Addr → Obj → List (List Key × V) → List (List Key × D) → Prop} (e : h p = some (.lkT o us kvs)) (q : k p o us kvs) : LkT h (.ref p) k := ⟨p, o, us, kvs, rfl, e, q⟩
theorem lkK_i {h : DH} {p : Addr} {o : Obj} {us : List (Key × V)} {kvs : List (Key × D)} {k : Addr → Obj → List (Key × V) → List (Key × D) → Prop} (e : h p = some (.lkK o us kvs)) (q : k p o us kvs) : LkK h (.ref p) k := ⟨p, o, us, kvs, rfl, e, q⟩
section
variable {env : Ev} {h : DH} {Q : QD} {Qx : QX} {we wk wv : WE} {ws : WA} {wi : WI} {wt : WT} {QI : Src → DH → Prop} {i : Nat} {wp : List (WE × WE)} {xs ys zs : List D}
theorem zEPrT : wPrT we env h QI Qx = we env h (fun d h1 => LkT h1 d fun p o us kvs => QI ⟨pairsT kvs, fun h' => h' p = some (.lkT o us kvs)⟩ h1) Qx := rfl
theorem zEPrK : wPrK we env h QI Qx = we env h (fun d h1 => LkK h1 d fun p o us kvs => QI ⟨pairsKD kvs, fun h' => h' p = some (.lkK o us kvs)⟩ h1) Qx := rfl
theorem zEKyT : wKyT we env h QI Qx = we env h (fun d h1 => LkT h1 d fun p o us kvs => QI ⟨keysTD kvs, fun h' => h' p = some (.lkT o us kvs)⟩ h1) Qx := rfl
theorem zEKyK : wKyK we env h QI Qx = we env h (fun d h1 => LkK h1 d fun p o us kvs => QI ⟨keysKD kvs, fun h' => h' p = some (.lkK o us kvs)⟩ h1) Qx := rfl
theorem zETupK : wTupK ws env h Q Qx = ws env h (fun ds h1 => ds.length ≤ sizeLine ∧ Q (.otup ds) h1) Qx := rfl
theorem zEDispT : wDispT wp env h Q Qx = ∀ p, h p = none → wPs wp env (dup h p (.dT [])) (fun ds h2 => h2 p = some (.dT []) ∧ ds.length ≤ 15 ∧ ∃ kvs, pairsTK ds = some kvs ∧ Q (.ref p) (dup h2 p (.dT (mergeTD [] kvs)))) Qx := rfl
theorem zEZip3 : wZip3 ws env h QI Qx = ws env h (fun ds h1 => Zip3Q ds fun s => QI s h1) Qx := rfl
theorem zZip3Q {k : Src → Prop} : Zip3Q [.tup xs, .tup ys, .tup zs] k = k ⟨zip3D xs ys zs, fun _ => True⟩ := rfl
theorem zTyQ_otup {k : String → Prop} : TyQ h (.otup xs) k = k "tuple" := rfl
theorem zLenQ_otup {k : Nat → Prop} : LenQ h (.otup xs) k = k xs.length := rfl
theorem zGIx_otup {i : Int} : gIx (.otup xs) (.int i) h Q = QAt h Q (atI xs i) := rfl
theorem tyQ_dT {p : Addr} {kvs : List (List Key × D)} {k : String → Prop} (e : h p = some (.dT kvs)) (q : k "dict") : TyQ h (.ref p) k := by rw [zTyQ_r, e]; exact q
theorem tyQ_dK {p : Addr} {kvs : List (Key × D)} {k : String → Prop} (e : h p = some (.dK kvs)) (q : k "dict") : TyQ h (.ref p) k := by rw [zTyQ_r, e]; exact q
end
/-! ### what a dict holds -/
section
variable {κ : Type} [DecidableEq κ]
theorem valD_at : ∀ {kvs : List (κ × D)} {j : Nat} {k : κ} {d : D}, (kvs.map (·.1)).Nodup → kvs[j]? = some (k, d) → valD kvs k = some d
  | [], _, _, _, _, h => by simp at h
  | (a, x) :: kvs, 0, k, d, _, h => by
    cases h
    unfold valD
    rw [List.find?_cons, decide_eq_true rfl]; rfl
  | (a, x) :: kvs, j + 1, k, d, n, h => by
    rw [List.map_cons, List.nodup_cons] at n
    have h : kvs[j]? = some (k, d) := h
    have ne : a ≠ k := fun e => n.1 (by subst e; exact List.mem_map.mpr ⟨_, List.mem_of_getElem? h, rfl⟩)
    unfold valD
    rw [List.find?_cons, decide_eq_false ne]
    exact valD_at n.2 h
theorem valD_nil {k : κ} : valD ([] : List (κ × D)) k = none := rfl
theorem valD_mem : ∀ {kvs : List (κ × D)} {k : κ} {d : D}, valD kvs k = some d → (k, d) ∈ kvs
  | [], _, _, h => by cases h
  | (a, x) :: kvs, k, d, h => by
    unfold valD at h
    rw [List.find?_cons] at h
    by_cases e : a = k
    · rw [decide_eq_true e] at h
      cases h
      subst e
      exact List.mem_cons_self
    · rw [decide_eq_false e] at h
      exact List.mem_cons_of_mem _ (valD_mem h)
theorem any_val {kvs : List (κ × D)} {k : κ} : (kvs.any fun kv => decide (kv.1 = k)) = (valD kvs k).isSome := by
  unfold valD
  rw [Option.isSome_map]
  induction kvs with
  | nil => rfl
  | cons a r ih =>
    rw [List.any_cons, List.find?_cons, ih]
    by_cases e : decide (a.1 = k) = true
    · rw [e]; rfl
    · rw [Bool.not_eq_true] at e
      rw [e]; rfl
theorem val_repl {k j : κ} {d : D} : ∀ (kvs : List (κ × D)), valD (kvs.map fun kv => if kv.1 = k then (kv.1, d) else kv) j = if j = k then (valD kvs k).map (fun _ => d) else valD kvs j
  | [] => by unfold valD; simp
  | (a, x) :: r => by
    have ih := val_repl (k := k) (j := j) (d := d) r
    rw [List.map_cons]
    by_cases e : a = k
    · subst e
      simp only [if_true]
      by_cases e2 : a = j
      · subst e2
        simp [valD]
      · have e3 : ¬ j = a := fun q => e2 q.symm
        unfold valD at ih ⊢
        rw [List.find?_cons, List.find?_cons, decide_eq_false e2]
        dsimp only
        rw [ih, if_neg e3, if_neg e3]
        simp [e2]
    · simp only [e, if_false]
      unfold valD at ih ⊢
      rw [List.find?_cons, List.find?_cons, List.find?_cons]
      by_cases e2 : a = j
      · subst e2
        simp [e]
      · rw [decide_eq_false e2, decide_eq_false e]
        exact ih
/-- a store, read -/
theorem val_put {kvs : List (κ × D)} {k j : κ} {d : D} : valD (putK2 kvs k d) j = if j = k then some d else valD kvs j := by
  unfold putK2
  by_cases c : (kvs.any fun kv => decide (kv.1 = k)) = true
  · rw [if_pos c, val_repl]
    by_cases e : j = k
    · rw [if_pos e, if_pos e]
      rw [any_val] at c
      cases z : valD kvs k with
      | none => rw [z] at c; cases c
      | some y => rfl
    · rw [if_neg e, if_neg e]
  · rw [if_neg c]
    have n : valD kvs k = none := by
      rw [any_val] at c
      cases z : valD kvs k with
      | none => rfl
      | some y => rw [z] at c; exact absurd rfl c
    unfold valD at n ⊢
    rw [List.find?_append]
    by_cases e : j = k
    · subst e
      rw [if_pos rfl]
      cases z : kvs.find? fun kv => decide (kv.1 = j) with
      | some y => rw [z] at n; cases n
      | none => simp
    · rw [if_neg e]
      cases z : kvs.find? fun kv => decide (kv.1 = j) with
      | some y => simp
      | none =>
        have e' : ¬ k = j := fun q => e q.symm
        simp [e']
theorem put_keys {kvs : List (κ × D)} {k : κ} {d : D} : (putK2 kvs k d).map (·.1) = if (valD kvs k).isSome = true then kvs.map (·.1) else kvs.map (·.1) ++ [k] := by
  unfold putK2
  rw [any_val]
  split
  · rw [List.map_map]
    refine List.map_congr_left fun kv _ => ?_
    show (if kv.1 = k then (kv.1, d) else kv).1 = kv.1
    split <;> rfl
  · rw [List.map_append]; rfl
theorem val_none {kvs : List (κ × D)} {k : κ} (h : valD kvs k = none) : k ∉ kvs.map (·.1) := fun m => by
  have a : (kvs.any fun kv => decide (kv.1 = k)) = true := by
    obtain ⟨kv, hm, e⟩ := List.mem_map.mp m
    exact List.any_eq_true.mpr ⟨kv, hm, decide_eq_true e⟩
  rw [any_val, h] at a
  cases a
theorem put_nodup {kvs : List (κ × D)} {k : κ} {d : D} (n : (kvs.map (·.1)).Nodup) : ((putK2 kvs k d).map (·.1)).Nodup := by
  rw [put_keys]
  split
  · exact n
  · rename_i c
    have e : valD kvs k = none := by
      cases z : valD kvs k with
      | none => rfl
      | some y => rw [z] at c; exact absurd rfl c
    rw [List.nodup_append]
    refine ⟨n, by simp, fun a ha b hb => ?_⟩
    rw [List.mem_singleton] at hb
    subst hb
    exact fun q => val_none e (q ▸ ha)
theorem put_len {kvs : List (κ × D)} {k : κ} {d : D} : (putK2 kvs k d).length ≤ kvs.length + 1 := by
  unfold putK2
  split
  · rw [List.length_map]; omega
  · rw [List.length_append, List.length_singleton]; omega
theorem dictOf_copy {kvs : List (κ × D)} {f : Nat → κ × D} (n : (kvs.map (·.1)).Nodup) (hf : ∀ j kv, kvs[j]? = some kv → f j = kv) : dictOf f kvs.length = kvs := by
  have inj : ∀ a b, a < kvs.length → b < kvs.length → (f a).1 = (f b).1 → a = b := fun a b ha hb e => by
    rw [hf a _ (List.getElem?_eq_getElem ha), hf b _ (List.getElem?_eq_getElem hb)] at e
    refine (List.getElem_inj (h₀ := by rwa [List.length_map]) (h₁ := by rwa [List.length_map]) n).mp ?_
    rw [List.getElem_map, List.getElem_map]
    exact e
  rw [dictOf_new inj]
  refine List.ext_getElem? fun i => ?_
  rw [List.getElem?_map]
  by_cases hi : i < kvs.length
  · rw [List.getElem?_range hi, Option.map_some, hf i _ (List.getElem?_eq_getElem hi), List.getElem?_eq_getElem hi]
  · rw [List.getElem?_eq_none (by simpa using hi), List.getElem?_eq_none (by simpa using hi)]; rfl
end
/-- a copy, key by key -/
theorem dcT_copy {i : Nat} {wk wv : WE} {env : Ev} {Q : QD} {p : Addr} {o : Obj} {us : List (List Key × V)} {kvs : List (List Key × D)} {h1 : DH} (hn : (kvs.map (·.1)).Nodup) (hl : kvs.length < sizeLine) (e : h1 p = some (.lkT o us kvs))
    (hk : ∀ k d h' (R : QD), valD kvs k = some d → Sub h1 h' → (∀ h'', Sub h' h'' → R (.otup (k.map kD)) h'') → wk (env.set i (some (.otup (k.map kD)))) h' R (fun _ _ => False))
    (hv : ∀ k d h' (R : QD), valD kvs k = some d → Sub h1 h' → (∀ h'', Sub h' h'' → R d h'') → wv (env.set i (some (.otup (k.map kD)))) h' R (fun _ _ => False))
    (q : ∀ p' h', h1 p' = none → Sub h1 h' → h' p' = some (.dT kvs) → Q (.ref p') h') : DcT i wYes wk wv env Q ⟨keysTD kvs, fun h' => h' p = some (.lkT o us kvs)⟩ h1 := by
  have len : (keysTD kvs).length = kvs.length := by unfold keysTD; rw [List.length_map]
  have at_ : ∀ j x, (keysTD kvs)[j]? = some x → ∃ kv : List Key × D, kvs[j]? = some kv ∧ x = D.otup (kv.1.map kD) := fun j x h => map_at h
  have ff : ∀ j kv, kvs[j]? = some kv → (kvs.getD j ([], .non)) = kv := fun j kv h => by rw [List.getD_eq_getElem?_getD, h]; rfl
  refine dcT_go (fun j => kvs.getD j ([], .non)) (fun h' s => s _ _ e) (by rw [len]; exact hl) (fun j x h' R hx s k => ?_) (fun j x h' R hx s k => ?_) (fun p' h' f s e' => ?_)
  · obtain ⟨⟨k1, d1⟩, h1', rfl⟩ := at_ j x hx
    rw [ff j _ h1'] at k
    exact hk k1 d1 h' R (valD_at hn h1') s k
  · obtain ⟨⟨k1, d1⟩, h1', rfl⟩ := at_ j x hx
    rw [ff j _ h1'] at k
    exact hv k1 d1 h' R (valD_at hn h1') s k
  · rw [len, dictOf_copy hn ff] at e'
    exact q p' h' f s e'
end DL
namespace L2
open PySem PySem.Spec PyProof.Rows
/-! ### a range object that is kept -/
section
variable {X : Cx}
theorem call_rngO : CallR X (.type "range") (fun xs H Q => ∃ j : Int, xs = [V.int j] ∧ ∀ p, H p = none → Q (.ref p) (upd H p (.rng 0 j))) := by
  intro pins s σ H xs us Q I r h
  obtain ⟨j, rfl, q⟩ := h
  cases r with
  | cons r1 r2 =>
    cases r2
    obtain ⟨t, rfl⟩ := r1
    refine call_range_1 ?_
    exact ⟨.ref s.heap.objs.size, upd H s.heap.objs.size (.rng 0 j), I.laid (t' := s.toks + 1 + 1) (fun b o e => Heap.get?_push_of_some _ e) (Nat.le_refl _) (show ObjOk X.prog X.w _ _ _ (.rng 0 j) from ⟨_, _, _, Heap.get?_push_size _ rfl⟩), rfl, q _ (I.hok.fresh (Nat.le_refl _))⟩
def iRngO (te : TE) : TI := fun σ H R => te σ H fun x H1 => ∃ (a : Addr) (i j : Int), x = .ref a ∧ H1 a = some (.rng i j) ∧ ((-(2 ^ 62) ≤ i ∧ i < 2 ^ 62) ∧ -(2 ^ 62) ≤ j ∧ j < 2 ^ 62) ∧ R (Itr i (j - i).toNat) H1
theorem size_one {i j : Int} : Builtin.Range.rangeSize i j 1 = ((j - i).toNat : Nat) := by
  unfold Builtin.Range.rangeSize
  rw [if_pos (by decide)]
  split <;> omega
theorem small_one {i j : Int} (b : (-(2 ^ 62) ≤ i ∧ i < 2 ^ 62) ∧ -(2 ^ 62) ≤ j ∧ j < 2 ^ 62) : Builtin.Range.small i j 1 = true := by
  unfold Builtin.Range.small
  rw [size_one]
  have f : ∀ z : Int, -(2 ^ 63) ≤ z → z < 2 ^ 63 → Builtin.Range.rangeFitsLong z = true := fun z h1 h2 => by
    unfold Builtin.Range.rangeFitsLong
    simp only [Bool.and_eq_true, decide_eq_true_eq]
    omega
  rw [f i (by omega) (by omega), f j (by omega) (by omega), f 1 (by omega) (by omega), f _ (by omega) (by omega), if_pos (by decide), f _ (by omega) (by omega), Bool.or_true]; rfl
theorem pi_rngO {tg e : Expr} {te : TE} (he : PE X e te) : PI X tg e (iRngO te) := by
  refine ⟨fun pins s σ H R I h => ?_⟩
  refine thn (he.run pins s σ H _ I h) fun v s1 hv => ?_
  obtain ⟨x, H1, I1, rel, a, i, j, ex, ha, b, q⟩ := hv
  subst ex
  cases (show v = Value.ref a from rel)
  obtain ⟨t, u, w, g⟩ : ∃ t u w, s1.heap.get? a = some { cls := Value.type "range", data := Data.fields #[Value.int i t, Value.int j u, Value.int 1 w] } := I1.hok a _ ha
  refine wpAny_pyIter_range g (small_one b) ?_
  have I2 := I1.kept (t' := s1.toks) (h' := s1.heap.push { cls := Value.type "range_iterator", data := Data.fields #[rawInt i, rawInt (Builtin.Range.rangeSize i j 1), rawInt 1] }) (fun b o e => Heap.get?_push_of_some _ e)
  refine ⟨s1.heap.objs.size, [s1.heap.objs.size], _, _, H1, rfl, I2, turn_range _ i (j - i).toNat, ?_, fun d hd => ?_, q⟩
  · show IsRangeIter _ _ _ _ _
    rw [size_one]
    have e1 : i + ((0 : Nat) : Int) * 1 = i := by omega
    have e2 : (((j - i).toNat : Nat) : Int) - ((0 : Nat) : Int) = ((j - i).toNat : Nat) := by omega
    rw [e1, e2]
    exact Heap.get?_push_size _ rfl
  · rw [List.mem_singleton] at hd
    subst hd
    exact I1.fpOk (Nat.le_refl _) (I1.hok.fresh (Nat.le_refl _))
end
end L2
namespace DL
open PySem PySem.Spec PyProof.Rows L2
section
variable {X : Cx}
def gRngO : GC := fun xs h Q => match xs with
  | [.int j] => ∀ p, h p = none → Q (.ref p) (dup h p (.rng 0 j))
  | _ => False
theorem c_rngO : OpC X (.type "range") gRngO := by
  refine ⟨_, call_rngO, ?_⟩
  intro xs h Qn H vs Q rds rw_ q kq
  unfold gRngO at q
  split at q
  · rename_i j
    cases rds with
    | cons rd t =>
      cases t; cases rd
      exact ⟨j, rfl, fun p hp => kq _ _ _ _ (Pe.new hp) (rw_.new hp (by show upd H p _ p = _; exact upd_same)) (.ref p) (q p (rw_.fresh hp))⟩
  · exact q.elim
theorem zERngO {j : Int} {h : DH} {Q : QD} : gRngO [.int j] h Q = ∀ p, h p = none → Q (.ref p) (dup h p (.rng 0 j)) := rfl
def rngI (h : DH) (d : D) (k : Src → Prop) : Prop := match d with
  | .ref a => match h a with
    | some (.rng i j) => ((-(2 ^ 62) ≤ i ∧ i < 2 ^ 62) ∧ -(2 ^ 62) ≤ j ∧ j < 2 ^ 62) ∧ k ⟨upto i (j - i).toNat, fun _ => True⟩
    | _ => False
  | _ => False
def wRngO (we : WE) : WI := fun env h Q Qx => we env h (fun d h1 => rngI h1 d fun s => Q s h1) Qx
theorem di_rngO {tg e : Expr} {we : WE} (he : DE X e we) : DI X tg e (wRngO we) :=
  ⟨fun W ck => (pi_rngO (he.ok W ck)).imp fun σ H R ⟨env, h, Qn, Qx, rs, rw_, q, kr, kx⟩ =>
    ⟨env, h, _, Qx, rs, rw_, q, fun d h1 v H1 p1 r1 rd q1 => by
      have q1 : rngI h1 d _ := q1
      unfold rngI at q1
      cases d with
      | ref a =>
        dsimp only at q1
        split at q1
        · rename_i i j e
          cases rd
          exact ⟨a, i, j, rfl, r1 _ _ e, q1.1, kr _ h1 _ H1 p1 r1 it_rng q1.2⟩
        · exact q1.elim
      | _ => exact q1.elim, kx⟩⟩
theorem zERngI : wRngO we env h Q Qx = we env h (fun d h1 => rngI h1 d fun s => Q s h1) Qx := rfl
theorem rng_i {p : Addr} {i j : Int} {h : DH} {k : Src → Prop} (e : h p = some (.rng i j)) (b : (-(2 ^ 62) ≤ i ∧ i < 2 ^ 62) ∧ -(2 ^ 62) ≤ j ∧ j < 2 ^ 62) (q : k ⟨upto i (j - i).toNat, fun _ => True⟩) : rngI h (.ref p) k := by
  unfold rngI
  dsimp only
  rw [e]
  exact ⟨b, q⟩
end
end DL
namespace L2
open PySem PySem.Spec PyProof.Rows
/-! ### two dicts with tuple keys are alike -/
section
variable {prog : Program} {w : World} {K : Type} [DecidableEq K] {knd : HeapKind prog w K} {A : Around} {E : Value → Shared → Prop} {s : Shared}
theorem pairsT_same {nm : String} {a b : Addr} {xa xb : List (K × Addr × Value)} {Q : Bool → Shared → Prop} (na : (a == sysModules) = false) (nb : (b == sysModules) = false) (Da : s.heap.DictOfH knd a xa) (Db : s.heap.DictOfH knd b xb)
    (rm : knd.room A) (ll : xa.length = xb.length) (all : ∀ x ∈ xa, ∃ (j : Nat) (p : Addr × Value), xb[j]? = some (x.1, p) ∧ SeqAt.EqAt A s x.2.2 p.2 true) (q : Q true s) : wpAny (model prog w) A (Builtin.Dict.samePairs nm a b) Q E s := by
  obtain ⟨oa, ea, pa, ga, _, ua, la, ia, da⟩ := Da
  obtain ⟨ob, eb, pb, gb, _, ub, lb, ib, db⟩ := Db
  have za := size_of_entries la
  have zb := size_of_entries lb
  have zz : ea.size = eb.size := by rw [za, zb, ll]
  unfold Builtin.Dict.samePairs Builtin.Dict.showsAll
  rw [if_neg (by rw [na]; exact Bool.false_ne_true), if_neg (by rw [nb]; exact Bool.false_ne_true)]
  refine wpAny_bind (wpAny_pure (wpAny_bind (wpAny_pure (wpAny_bind (wpAny_dictEntries ga ua ?_)))))
  dsimp only
  refine wpAny_bind (wpAny_dictEntries gb ub ?_)
  rw [if_neg (show ¬ (ea.size != eb.size) = true by rw [zz]; simp)]
  refine wpAny_bind (wpAny_dictEpoch ga ua (wpAny_bind ?_))
  rw [Std.Legacy.Range.forIn_eq_forIn_range']
  simp only [Nat.div_one, Nat.sub_zero, Nat.add_sub_cancel, Std.Legacy.Range.size]
  refine wpAny_forIn_list _ (fun rest r t => t = s ∧ (r = (none, ()) ∧ ∃ i, i ≤ ea.size ∧ rest = List.range' i (ea.size - i))) _ ?_ ?_ _ _ ⟨rfl, rfl, 0, Nat.zero_le _, by simp⟩
  · rintro x rest r t ⟨e1, e2, i, hi, hr⟩
    subst e1 e2
    have lt : i < ea.size := by
      rcases Nat.lt_or_ge i ea.size with z | z
      · exact z
      · rw [Nat.sub_eq_zero_of_le z] at hr; cases hr
    rw [show ea.size - i = (ea.size - (i + 1)) + 1 by omega, List.range'_succ] at hr
    injection hr with h1 h2
    subst h1
    have lt2 : x < xa.length := by rw [← za]; exact lt
    have hx : ea[x] = entryOfKey knd xa[x] := by
      have z := entry_at la x
      rw [Array.getElem?_eq_getElem lt, List.getElem?_eq_getElem lt2] at z
      exact Option.some.inj z
    have hm : xa[x] ∈ xa := List.getElem_mem lt2
    obtain ⟨j, p, hj, ev⟩ := all _ hm
    have hi := ia _ hm
    generalize xa[x] = y at hx hm hj ev hi
    refine wpAny_bind (wpAny_dictEntries ga ua ?_)
    rw [Array.getElem?_eq_getElem lt]
    show wpAny _ _ (holding [(ea[x]).key, (ea[x]).val] _ >>= _) _ _ _
    rw [hx]
    refine wpAny_bind (wpAny_holding (wpAny_bind ?_))
    show wpAny _ _ (dictFind b (.ref y.2.1) (knd.hash y.1)) _ _ _
    refine wpAny_dictFind_heap rm hi gb ub lb ib db (fun no => absurd hj (no j p)) fun j2 p2 hj2 => ?_
    have ee : p2 = p := Option.some.inj ((atKey_of_get db hj2).symm.trans (atKey_of_get db hj))
    subst ee
    have fx : eb[j2]? = some (entryOfKey knd (y.1, p2)) := by rw [entry_at lb, hj2]; rfl
    refine wpAny_bind (wpAny_dictEntries gb ub ?_)
    rw [fx]
    refine wpAny_holding (ev prog w _ _ ?_)
    show wpAny _ _ (ite ((!true) = true) _ _) _ _ _
    rw [if_neg (by decide)]
    refine wpAny_bind (wpAny_dictEpoch ga ua ?_)
    rw [if_neg (by simp)]
    exact wpAny_pure ⟨rfl, rfl, x + 1, lt, h2⟩
  · rintro r t ⟨e1, e2, i, hi, hr⟩
    subst e1 e2
    exact wpAny_pure q
theorem neT {a b : Addr} {xa xb : List (K × Addr × Value)} {Q : Value → Shared → Prop} (na : (a == sysModules) = false) (nb : (b == sysModules) = false) (Da : s.heap.DictOfH knd a xa) (Db : s.heap.DictOfH knd b xb) (hu : A.units < cLine)
    (rm : knd.room A.in1) (ll : xa.length = xb.length) (all : ∀ x ∈ xa, ∃ (j : Nat) (p : Addr × Value), xb[j]? = some (x.1, p) ∧ SeqAt.EqAt A.in1 s x.2.2 p.2 true) (q : Q (.bool false) s) : wpAny (model prog w) A (compareOp .NotEq (.ref a) (.ref b)) Q E s := by
  refine wpAny_richCompare_same_room (op := .NotEq) Da.typeIs Db.typeIs PySem.F.slot_dict_ne (wpAny_call_entry PySem.F.slot_dict_ne Da.typeIs PySem.F.entry_dict_ne ?_ (PySem.F.args_dict_ne_2 _ _)) hu
  show wpAny _ _ (Builtin.Dict.dictSlotArgs "__ne__" { pos := [Value.ref a, Value.ref b], kw := [] } >>= _) _ _ s
  unfold Builtin.Dict.dictSlotArgs
  refine wpAny_bind (wpAny_bind (wpAny_notOrdered_dict Da.typeIs ?_))
  refine (wpAny_pure ?_ : wpAny _ _ (pure (Value.ref a, Value.ref b)) _ _ s)
  refine wpAny_bind (wpAny_isInstance (T := "dict") Db.typeIs PySem.F.sub_dict_dict ?_)
  simp only [Bool.not_true, if_false, Bool.false_eq_true]
  refine wpAny_bind (wpAny_pure (wpAny_bind (wpAny_pure (wpAny_bind (pairsT_same na nb Da Db rm ll all ?_)))))
  exact wpAny_pure ⟨_, rfl, (by intro z; cases z), by simpa using q⟩
end
section
variable {X : Cx}
theorem atKey_get {K : Type} [DecidableEq K] {xs : List (K × Addr × Value)} {k : K} {p : Addr × Value} (h : atKey xs k = some p) : ∃ j : Nat, xs[j]? = some (k, p) := by
  unfold atKey at h
  obtain ⟨x, hx, rfl⟩ := Option.map_eq_some_iff.mp h
  have hk : x.1 = k := by have z := List.find?_some hx; simpa using z
  obtain ⟨j, hj, e⟩ := List.getElem_of_mem (List.mem_of_find?_eq_some hx)
  exact ⟨j, by rw [List.getElem?_eq_getElem hj, e, ← hk]⟩
theorem pairedR {α β : Type} {R : α → β → Prop} : ∀ {l : List α} {m : List β} {y : β}, Paired R l m → y ∈ m → ∃ x, x ∈ l ∧ R x y
  | _, _, _, .nil, h => nomatch h
  | _, _, y, .cons r t, h => by
    rcases List.mem_cons.mp h with rfl | h
    · exact ⟨_, List.mem_cons_self, r⟩
    · obtain ⟨x, hx, rx⟩ := pairedR t h
      exact ⟨x, List.mem_cons_of_mem _ hx, rx⟩
def rNeT : R2 := fun x y H Q => ∃ a b ks ls, x = .ref a ∧ y = .ref b ∧ H a = some (.dT ks) ∧ H b = some (.dT ls) ∧ ks.length = ls.length ∧ (∀ p ∈ ks, valV ls p.1 = some p.2 ∧ flatB p.2 = true) ∧ Q (.bl false) H
theorem op_neT (hu : X.A.units + 1 < cLine) : OpR X (compareOp .NotEq) rNeT := by
  intro pins s σ H x y v u Q I rx ry h
  obtain ⟨a, b, ks, ls, rfl, rfl, ea, eb, hlen, hp, q⟩ := h
  cases (show v = Value.ref a from rx)
  cases (show u = Value.ref b from ry)
  obtain ⟨z1, n1, xa, ra, da⟩ := dt_of I.hok ea
  obtain ⟨z2, n2, xb, rb, db⟩ := dt_of I.hok eb
  have ll : xa.length = xb.length := by rw [← ra.length, ← rb.length]; exact hlen
  refine neT n1 n2 da db (by omega) (tupleKind_room_in1 hu) ll (fun x hx => ?_) (fin_bl I q rfl)
  obtain ⟨p, hp1, e1, _, r1⟩ := pairedR ra hx
  obtain ⟨e2, f2⟩ := hp p hp1
  have rr := rb.val p.1
  rw [e2] at rr
  obtain ⟨u, hu2, ru⟩ := rr.some_of
  obtain ⟨q1, hq1, rfl⟩ := Option.map_eq_some_iff.mp hu2
  obtain ⟨j, hj⟩ := atKey_get hq1
  exact ⟨j, q1, by rw [← e1]; exact hj, eqAt_same r1 ru f2⟩
end
end L2
namespace DL
open PySem PySem.Spec PyProof.Rows L2
section
variable {X : Cx}
/-- two tables with tuple keys and numbers, alike: != is False -/
def gNeT : G2 := fun x y h Q => match x, y with
  | .ref a, .ref b => match h a, h b with
    | some (.dT ks), some (.dT ls) => ks.length = ls.length ∧ (∀ p ∈ ks, ∃ i : Int, p.2 = .int i ∧ valD ls p.1 = some (.int i)) ∧ Q (.bl false) h
    | _, _ => False
  | _, _ => False
theorem mem_paired {K : PySem.W.Frag} {H : Hp} : ∀ {ks : List (List Key × D)} {vs : List (List Key × V)} {p : List Key × V}, vs.map (·.1) = ks.map (·.1) → RDs K H (ks.map (·.2)) (vs.map (·.2)) → p ∈ vs → ∃ d, (p.1, d) ∈ ks ∧ RD K H d p.2
  | [], [], _, _, _, h => nomatch h
  | [], _ :: _, _, e, _, _ => by cases e
  | _ :: _, [], _, e, _, _ => by cases e
  | (k, d) :: ks, (k', v) :: vs, p, e, r, h => by
    rw [List.map_cons, List.map_cons] at e
    injection e with e1 e2
    have r : RDs K H (d :: ks.map (·.2)) (v :: vs.map (·.2)) := r
    cases r with
    | cons r1 r2 =>
      rcases List.mem_cons.mp h with rfl | h
      · have e1 : k' = k := e1
        exact ⟨d, by rw [e1]; exact List.mem_cons_self, r1⟩
      · obtain ⟨d2, h2, r3⟩ := mem_paired e2 r2 h
        exact ⟨d2, List.mem_cons_of_mem _ h2, r3⟩
theorem o_neT (hu : X.A.units + 64 < cLine) : Op2 X (compareOp .NotEq) gNeT := by
  refine ⟨_, op_neT (by omega), ?_⟩
  intro x y h Qn H vx vy Q rx ry rw_ q kq
  unfold gNeT at q
  cases x with
  | ref a =>
    cases y with
    | ref b =>
      dsimp only at q
      split at q
      · rename_i ks ls e1 e2
        obtain ⟨hl, hp, q⟩ := q
        cases rx
        cases ry
        obtain ⟨va, ha, na, ra⟩ := rw_ _ _ e1
        obtain ⟨vb, hb, nb, rb⟩ := rw_ _ _ e2
        refine ⟨a, b, va, vb, rfl, rfl, ha, hb, ?_, fun p hm => ?_, kq.here rw_ (.bl _) q⟩
        · have l1 := congrArg List.length na
          have l2 := congrArg List.length nb
          rw [List.length_map, List.length_map] at l1 l2
          omega
        · obtain ⟨d, hd, rd⟩ := mem_paired na ra hm
          obtain ⟨i, e, ev⟩ := hp _ hd
          have e : d = .int i := e
          subst e
          have rv := valD_rel (k := p.1) nb rb
          rw [ev] at rv
          obtain ⟨k, v⟩ := p
          cases rd
          generalize valV vb (k, V.int i).1 = o at rv
          cases rv with
          | some r =>
            cases r
            exact ⟨rfl, rfl⟩
      · exact q.elim
    | _ => exact q.elim
  | _ => exact q.elim
theorem neT_i {a b : Addr} {ks ls : List (List Key × D)} {h : DH} {Q : QD} (e1 : h a = some (.dT ks)) (e2 : h b = some (.dT ls)) (hl : ks.length = ls.length) (hp : ∀ p ∈ ks, ∃ i : Int, p.2 = .int i ∧ valD ls p.1 = some (.int i)) (q : Q (.bl false) h) : gNeT (.ref a) (.ref b) h Q := by
  unfold gNeT
  dsimp only
  rw [e1, e2]
  exact ⟨hl, hp, q⟩
end
end DL
namespace DL
open PySem PySem.Spec PyProof.Rows L2
/-! ### t[::-1] as a key -/
section
variable {X : Cx} {e : Expr} {w : WE} {pos : Pos}
def tRevK (K : PySem.W.Frag) (te : TE) : TE := fun σ H Q => te σ H fun x H1 => ∃ a xs, x = .ref a ∧ SqT K H1 a xs ∧ ∀ p, H1 p = none → Q (.ref p) (upd H1 p (.tup xs.reverse))
theorem pe_revK {te : TE} {k : Nat} {p1 p2 p3 : Pos} (he : PE X e te) : PE X (.Subscript e (.Slice none none (some (.UnaryOp .USub (.Constant (.int 1) k p1) p2)) p3) pos) (tRevK X.K te) := ⟨fun pins s σ H Q I h => by
  refine Subscript_ (thn (he.run pins s σ H _ I h) fun v s1 hh => ?_)
  obtain ⟨x, H1, I1, r1, a, xs, ex, hx, q⟩ := hh
  subst ex
  cases r1
  have hst : PO X (some (.UnaryOp .USub (.Constant (.int 1) k p1) p2)) (tPart (tUn (rU fun i => .int (-i)) (tC (.int 1)))) := po_some (pe_un un_neg pe_int)
  refine wpAny_Slice (thn (po_none.run pins s1 σ H1 (fun o H2 => o = none ∧ H2 = H1) I1 ⟨rfl, rfl⟩) fun vl s2 h2 => ?_)
  obtain ⟨l, H2, I2, pl, el, e2⟩ := h2
  subst el e2
  refine thn (po_none.run pins s2 σ H2 (fun o H3 => o = none ∧ H3 = H2) I2 ⟨rfl, rfl⟩) fun vu s3 h3 => ?_
  obtain ⟨u, H3, I3, pu, eu, e3⟩ := h3
  subst eu e3
  refine thn (hst.run pins s3 σ H3 (fun o H4 => o = some (-1) ∧ H4 = H3) I3 ⟨1, rfl, -1, rfl, rfl, rfl⟩) fun vs s4 h4 => ?_
  obtain ⟨o, H4, I4, ps, eo, e4⟩ := h4
  subst eo e4
  have I5 : Inv X pins σ H4 { s4 with heap := s4.heap.push { cls := .type "slice", data := .fields #[vl, vu, vs] } } := I4.kept (t' := s4.toks) fun b ob q => Heap.get?_push_of_some _ q
  show wpAny (model X.prog X.w) X.A (subscriptTail e (.Slice none none (some (.UnaryOp .USub (.Constant (.int 1) k p1) p2)) p3) (.ref a) (.ref s4.heap.objs.size)) (EP X pins σ Q) X.xe { s4 with heap := s4.heap.push { cls := .type "slice", data := .fields #[vl, vu, vs] } }
  obtain ⟨its, r, ht, hz⟩ := I5.tuple hx
  have hlen := r.length
  refine tail_any (ops := [.ref a, .ref s4.heap.objs.size]) ht.typeIs PyProof.Rows.slot_tuple_getitem.lookup (tuple_rev ht (Heap.IsSliceOf.new _ vl vu vs) pl pu ps ?_ (by rw [List.size_toArray]; omega)) (by with_unfolding_all rfl)
  refine ⟨.ref _, _, I5.laid (t' := s4.toks) (o := .tup xs.reverse) (fun b ob q => Heap.get?_push_of_some _ q) (Nat.le_refl _) ?_, rfl, q _ (I5.hok.fresh (Nat.le_refl _))⟩
  exact ⟨by rw [List.length_reverse]; exact hz, _, r.reverse, ⟨_, Heap.get?_push_size _ rfl, rfl, _, rfl⟩⟩⟩
def gRevK (x : D) (h : DH) (Q : QD) : Prop := match x with
  | .otup xs => Q (.otup xs.reverse) h
  | _ => False
def wRevK (w : WE) : WE := fun env h Q Qx => w env h (fun x h1 => gRevK x h1 Q) Qx
theorem de_revK {k : Nat} {p1 p2 p3 : Pos} (he : DE X e w) : DE X (.Subscript e (.Slice none none (some (.UnaryOp .USub (.Constant (.int 1) k p1) p2)) p3) pos) (wRevK w) :=
  ⟨fun W ck => (pe_revK (he.ok W ck)).imp fun σ H Q ⟨env, h, Qn, Qx, rs, rw_, q, kq, kx⟩ => ⟨env, h, _, Qx, rs, rw_, q, fun x h1 v H1 p1 r1 rd q1 => by
    have q1 : gRevK x h1 Qn := q1
    unfold gRevK at q1
    cases rd with
    | otup t r =>
      refine ⟨_, _, rfl, .inl (.inl t), fun p hp => ?_⟩
      exact kq _ h1 _ _ (p1.trans (Pe.new hp)) (r1.beside hp) (.otup upd_same (r.reverse.mono (Pe.new hp))) q1
    | _ => exact q1.elim, kx⟩⟩
theorem zERevK {env : Ev} {h : DH} {Q : QD} {Qx : QX} : wRevK w env h Q Qx = w env h (fun x h1 => gRevK x h1 Q) Qx := rfl
theorem zGRevK {xs : List D} {h : DH} {Q : QD} : gRevK (.otup xs) h Q = Q (.otup xs.reverse) h := rfl
end
end DL
namespace L2
open PySem PySem.Spec PyProof.Rows
/-! ### min(xs, default=d), a list of ints -/
theorem minOf_int : ∀ (ys : List Int) (x : Int), (PySem.W.minOf x ys = x ∨ PySem.W.minOf x ys ∈ ys) ∧ PySem.W.minOf x ys ≤ x ∧ ∀ y ∈ ys, PySem.W.minOf x ys ≤ y
  | [], x => ⟨.inl rfl, Int.le_refl _, fun _ h => nomatch h⟩
  | z :: ys, x => by
    have e : PySem.W.minOf x (z :: ys) = PySem.W.minOf (if PySem.W.DatumOrd.lt z x = true then z else x) ys := rfl
    have d : (PySem.W.DatumOrd.lt z x = true) ↔ z < x := by show decide (z < x) = true ↔ _; exact decide_eq_true_iff
    rw [e]
    split
    · rename_i c
      have c := d.mp c
      obtain ⟨h1, h2, h3⟩ := minOf_int ys z
      refine ⟨.inr ?_, by omega, fun y hy => ?_⟩
      · rcases h1 with h1 | h1
        · rw [h1]; exact List.mem_cons_self
        · exact List.mem_cons_of_mem _ h1
      · rcases List.mem_cons.mp hy with rfl | hy
        · exact h2
        · exact h3 y hy
    · rename_i c
      have c : ¬ z < x := fun q => c (d.mpr q)
      obtain ⟨h1, h2, h3⟩ := minOf_int ys x
      refine ⟨h1.imp id (List.mem_cons_of_mem _), h2, fun y hy => ?_⟩
      rcases List.mem_cons.mp hy with rfl | hy
      · omega
      · exact h3 y hy
section
variable {X : Cx} {e de : Expr} {ta : TA} {td : TE} {p kp pos : Pos}
def tMinD (K : PySem.W.Frag) (ta : TA) (td : TE) : TE := fun σ H Q => ta σ H fun vs H1 => ∃ a : Addr, vs = [V.ref a] ∧ td σ H1 fun d H2 => ∃ (i : Int) (ns : List Int), d = .int i ∧ SqL K H2 a (ns.map V.int) ∧ (ns = [] → Q (.int i) H2) ∧ ∀ m, m ∈ ns → (∀ y ∈ ns, m ≤ y) → Q (.int m) H2
theorem pe_minD (hc : X.calm = true) (hu : X.A.units + 64 < cLine) (hg : Gl X "min") (hm : X.mg "min" = none) (ha : PA X [e] ta) (hd : PE X de td)
    (hs : starEach [e] X.env = (false, eval e X.env) :: starEach [] X.env := by rfl) : PE X (.Call (.Name "min" p) [e] [⟨some "default", de, kp⟩] pos) (tMinD X.K ta td) := by
  refine ⟨fun pins s σ H Q I h => ?_⟩
  refine wpAny_Call_Name_kw (ld_blt I hg hm (u := .builtin "min") (by first | rfl | decide +kernel) ?_ (by first | decide +kernel | decide) (by first | decide +kernel | decide))
  refine callWith_kw (he := by rw [hs]; rfl) (hplain := by rw [hs]; rfl) (thn (ha.run pos pins s σ H _ I h) fun us s1 ⟨vs, H1, I1, r1, a, ev, q1⟩ => ?_)
  subst ev
  obtain ⟨u, eu, ru⟩ := r1.one
  subst eu
  cases ru
  refine kws_cons (thn (hd.run pins s1 σ H1 _ I1 q1) fun v s2 ⟨x, H2, I2, r2, i, ns, ex, sq, q0, qm⟩ => kws_nil ?_)
  subst ex
  obtain ⟨its, rv, hl, _⟩ := I2.list sq
  have hdep : X.A.units + 1 + PySem.W.Datum.depth Int < cLine := by
    have e : PySem.W.Datum.depth Int ≤ 1 := by decide
    omega
  show wpAny _ _ (call (.builtin "min") [.ref a] [(Str.ofString "default", v)]) _ _ _
  refine PySem.W.min_list_datum_default (α := Int) (xs := ns) (I2.ok.hd hc) hl.isList ⟨_, PySem.W.readsAll_of_ints rv.ints⟩ hdep (fun e0 h' tk k => ⟨.int i, H2, I2.kept (t' := tk) k, r2, q0 e0⟩) fun y ys j w h' tk e0 hj hw k => ?_
  obtain ⟨as, hw⟩ := hw
  have hm := minOf_int ys y
  have hw : Reads h' w (.int (PySem.W.minOf y ys)) as := hw
  obtain ⟨t, rfl⟩ : ∃ t, w = .int (PySem.W.minOf y ys) t := by cases hw; exact ⟨_, rfl⟩
  refine ⟨.int (PySem.W.minOf y ys), H2, I2.kept (t' := tk) k, ⟨t, rfl⟩, qm _ ?_ fun z hz => ?_⟩
  · rw [e0]
    rcases hm.1 with z | z
    · rw [z]; exact List.mem_cons_self
    · exact List.mem_cons_of_mem _ z
  · rw [e0] at hz
    rcases List.mem_cons.mp hz with rfl | hz
    · exact hm.2.1
    · exact hm.2.2 z hz
end
end L2
namespace DL
open PySem PySem.Spec PyProof.Rows L2
section
variable {X : Cx} {e de : Expr} {ws : WA} {wd : WE} {p kp pos : Pos}
def minDQ (h : DH) (a : Addr) (i : Int) (Q : QD) : Prop := match h a with
  | some (.lst xs) => ∃ ns : List Int, xs = ns.map D.int ∧ (ns = [] → Q (.int i) h) ∧ ∀ m, m ∈ ns → (∀ y ∈ ns, m ≤ y) → Q (.int m) h
  | _ => False
def gMinD (ds : List D) (d : D) (h : DH) (Q : QD) : Prop := match ds, d with
  | [.ref a], .int i => minDQ h a i Q
  | _, _ => False
def wMinD (ws : WA) (wd : WE) : WE := fun env h Q Qx => ws env h (fun ds h1 => (∃ a, ds = [D.ref a]) ∧ wd env h1 (fun d h2 => gMinD ds d h2 Q) Qx) Qx
theorem de_minD (hc : X.calm = true) (hu : X.A.units + 64 < cLine) (hg : Gl X "min") (hm : X.mg "min" = none) (ha : DA X [e] ws) (hd : DE X de wd)
    (hs : starEach [e] X.env = (false, eval e X.env) :: starEach [] X.env := by rfl) : DE X (.Call (.Name "min" p) [e] [⟨some "default", de, kp⟩] pos) (wMinD ws wd) :=
  ⟨fun W ck => (pe_minD hc hu hg hm (ha.ok W ck) (hd.ok W ck) hs).imp fun σ H Q ⟨env, h, Qn, Qx, rs, rw_, q, kq, kx⟩ =>
    ⟨env, h, _, Qx, rs, rw_, q, fun ds h1 vs H1 p1 r1 rds q1 => by
      obtain ⟨⟨a, rfl⟩, q1⟩ := q1
      cases rds with
      | cons rd t =>
        cases t
        cases rd
        refine ⟨a, rfl, env, h1, _, Qx, rs.mono p1, r1, q1, fun d h2 v H2 p2 r2 rd q2 => ?_, kx.mono p1⟩
        have q2 : gMinD [.ref a] d h2 Qn := q2
        unfold gMinD at q2
        cases d with
        | int i =>
          have q2 : minDQ h2 a i Qn := q2
          unfold minDQ at q2
          cases rd
          split at q2
          · rename_i xs e2
            obtain ⟨ns, rfl, q0, qm⟩ := q2
            obtain ⟨us, hv, rr⟩ := r2 _ _ e2
            have eu := RDs.ints_inv rr
            subst eu
            exact ⟨i, ns, rfl, SqL.of hv, fun z => kq _ _ _ _ (p1.trans p2) r2 (.int _) (q0 z), fun m hm hy => kq _ _ _ _ (p1.trans p2) r2 (.int _) (qm m hm hy)⟩
          · exact q2.elim
        | _ => exact q2.elim, kx⟩⟩
theorem zEMinD {env : Ev} {h : DH} {Q : QD} {Qx : QX} : wMinD ws wd env h Q Qx = ws env h (fun ds h1 => (∃ a, ds = [D.ref a]) ∧ wd env h1 (fun d h2 => gMinD ds d h2 Q) Qx) Qx := rfl
theorem minD_i {a : Addr} {i : Int} {ns : List Int} {h : DH} {Q : QD} (e : h a = some (.lst (ns.map D.int))) (q0 : ns = [] → Q (.int i) h) (qm : ∀ m, m ∈ ns → (∀ y ∈ ns, m ≤ y) → Q (.int m) h) : gMinD [.ref a] (.int i) h Q := by
  show minDQ h a i Q
  unfold minDQ
  rw [e]
  exact ⟨ns, rfl, q0, qm⟩
end
end DL
namespace L2
open PySem PySem.Spec PyProof.Rows
/-! ### list comprehensions of several clauses, the targets names, no tests -/
structure Cl where
  x : Str
  px : Pos
  it : Expr
  i : Nat
  w : TI
abbrev Cl.tg (c : Cl) : Expr := .Name c.x c.px
def Cl.gen (c : Cl) : Comprehension := ⟨c.tg, c.it, [], 0⟩
abbrev Cmp (elt : Expr) (gens : List Comprehension) (scope : Scope) (pos : Pos) : Expr := .ListComp elt gens scope pos
section
variable {elt : Expr} {gens : List Comprehension} {scope : Scope} {pos : Pos} {c c1 : Cl} {k : Nat} {it acc : Value} {env : Env}
theorem turn_last (hk : gens[k]? = some c.gen) (hk1 : gens[k + 1]? = none) : compTurn (Cmp elt gens scope pos) k it acc env = (do
    standAt c.it.pos
    let r ← pyNext it
    match r with
    | none => pure (.done .next)
    | some v => do letOwnedTupleGo c.tg it v; assign c.tg env v; (do let _ ← call (.builtin "list.append") [acc, ← eval elt env]); again (.compLoop (Cmp elt gens scope pos) k it acc env)) := by
  unfold compTurn
  dsimp only
  rw [hk]
  dsimp only
  rw [hk1]
  rfl
theorem turn_more (hk : gens[k]? = some c.gen) (hk1 : gens[k + 1]? = some c1.gen) : compTurn (Cmp elt gens scope pos) k it acc env = (do
    standAt c.it.pos
    let r ← pyNext it
    match r with
    | none => pure (.done .next)
    | some v => do
      letOwnedTupleGo c.tg it v; assign c.tg env v; let x ← eval c1.it env; standAt c1.it.pos; let x ← foldedSetIterable c1.it env x; let _ ← runOwn (.compStart (Cmp elt gens scope pos) (k + 1) (← holding [x] (pyIter x)) acc env) env
      again (.compLoop (Cmp elt gens scope pos) k it acc env)) := by
  unfold compTurn
  dsimp only
  rw [hk]
  dsimp only
  rw [hk1]
  rfl
end
abbrev Wp {α : Type} (prog : Program) (w : World) (A : Around) (m : Sem α) (Q : α → Shared → Prop) (s : Shared) : Prop := wpAny (model prog w) A m Q (fun _ _ => False) s
section
variable {prog : Program} {w : World} {A : Around} {R : Result → Shared → Prop} {s : Shared} {elt : Expr} {gens : List Comprehension} {scope : Scope} {pos : Pos} {c c1 : Cl} {k : Nat} {it acc : Value} {env : Env}
theorem loop_last (hk : gens[k]? = some c.gen) (hk1 : gens[k + 1]? = none) (I : Nat → Shared → Prop)
    (turn : ∀ n s, I n s → Wp prog w A (pyNext it) (fun r s1 => match r with
      | none => R (.ok .next) s1
      | some v => Wp prog w A (letOwnedTupleGo c.tg it v) (fun _ s2 => Wp prog w A (assign c.tg env v) (fun _ s3 => Wp prog w A (eval elt env) (fun x s4 => Wp prog w A (call (.builtin "list.append") [acc, x]) (fun _ s5 => ∃ m, m < n ∧ I m s5) s4) s3) s2) s1) s)
    (n : Nat) (h : I n s) : codeAny (model prog w) A (.compLoop (Cmp elt gens scope pos) k it acc env) R s := by
  refine codeAny_loop rfl I (fun n s hI => ?_) n h
  show wpAny _ A ((compTurn (Cmp elt gens scope pos) k it acc env).onRaise (fun x => do noteFrame x env; theTreesLotGoes x)) _ _ s
  refine wpAny_noted ?_
  rw [turn_last hk hk1]
  refine wpAny_bind (wpAny_standAt (wpAny_bind (wpAny_mono (turn n s hI) (fun r s1 h1 => ?_) fun _ _ z => z.elim)))
  cases r with
  | none => exact wpAny_pure h1
  | some v =>
    refine wpAny_bind (wpAny_mono h1 (fun _ s2 h2 => ?_) fun _ _ z => z.elim)
    refine wpAny_bind (wpAny_mono h2 (fun _ s3 h3 => ?_) fun _ _ z => z.elim)
    exact wpAny_bind (wpAny_bind (wpAny_mono h3 (fun x s4 h4 => wpAny_bind (wpAny_mono h4 (fun _ s5 h5 => wpAny_pure (wpAny_pure ⟨rfl, h5⟩)) fun _ _ z => z.elim)) fun _ _ z => z.elim))
theorem loop_more (hk : gens[k]? = some c.gen) (hk1 : gens[k + 1]? = some c1.gen) (hs : ∀ x, foldedSetIterable c1.it env x = pure x) (I : Nat → Shared → Prop)
    (turn : ∀ n s, I n s → Wp prog w A (pyNext it) (fun r s1 => match r with
      | none => R (.ok .next) s1
      | some v => Wp prog w A (letOwnedTupleGo c.tg it v) (fun _ s2 => Wp prog w A (assign c.tg env v) (fun _ s3 => Wp prog w A (eval c1.it env) (fun x s4 => Wp prog w A (pyIter x) (fun it1 s5 =>
          codeAny (model prog w) A (.compStart (Cmp elt gens scope pos) (k + 1) it1 acc env) (fun r s' => match r with
            | .ok _ => ∃ m, m < n ∧ I m s'
            | .error _ => False) s5) s4) s3) s2) s1) s)
    (n : Nat) (h : I n s) : codeAny (model prog w) A (.compLoop (Cmp elt gens scope pos) k it acc env) R s := by
  refine codeAny_loop rfl I (fun n s hI => ?_) n h
  show wpAny _ A ((compTurn (Cmp elt gens scope pos) k it acc env).onRaise (fun x => do noteFrame x env; theTreesLotGoes x)) _ _ s
  refine wpAny_noted ?_
  rw [turn_more hk hk1]
  refine wpAny_bind (wpAny_standAt (wpAny_bind (wpAny_mono (turn n s hI) (fun r s1 h1 => ?_) fun _ _ z => z.elim)))
  cases r with
  | none => exact wpAny_pure h1
  | some v =>
    refine wpAny_bind (wpAny_mono h1 (fun _ s2 h2 => ?_) fun _ _ z => z.elim)
    refine wpAny_bind (wpAny_mono h2 (fun _ s3 h3 => ?_) fun _ _ z => z.elim)
    refine wpAny_bind (wpAny_mono h3 (fun x s4 h4 => ?_) fun _ _ z => z.elim)
    refine wpAny_bind (wpAny_standAt (wpAny_bind (wpAny_of_eq (hs x) (wpAny_bind (wpAny_holding (wpAny_mono h4 (fun it1 s5 h5 => ?_) fun _ _ z => z.elim))))))
    refine wpAny_bind (wpAny_runOwn ?_)
    rw [Around.mark_none]
    refine codeAny_mono h5 fun r s' hr => ?_
    cases r with
    | ok f =>
      first
        | exact wpAny_pure ⟨rfl, hr⟩
        | exact wpAny_bind (wpAny_pure (wpAny_pure ⟨rfl, hr⟩))
    | error e => exact hr.elim
theorem start_k (hk : gens[k]? = some c.gen) (h0 : codeAny (model prog w) A (.compLoop (Cmp elt gens scope pos) k it acc env) R s)
    (h : Wp prog w A (pyIter it) (fun it' s' => codeAny (model prog w) A (.compLoop (Cmp elt gens scope pos) k it' acc env) R s') s) : codeAny (model prog w) A (.compStart (Cmp elt gens scope pos) k it acc env) R s := by
  refine codeAny_of_tree ?_
  show wpAny _ _ ((compStart (Cmp elt gens scope pos) k it acc env).onRaise (fun x => do noteFrame x env; standAt theWindowsPlace)) _ _ s
  refine wpAny_notedAt ?_
  unfold compStart
  rw [show clausesOf (Cmp elt gens scope pos) = gens from rfl, hk]
  show wpAny _ _ (ask >>= _) _ _ s
  refine wpAny_bind (wpAny_askSetting (wpAny_ite ?_))
  split
  · first
      | exact wpAny_bind (wpAny_pure (wpAny_pure (And.intro rfl h0)))
      | exact wpAny_pure (And.intro rfl h0)
  · refine wpAny_bind (wpAny_rule ?_)
    first
      | exact wpAny_bind (wpAny_standAt (wpAny_bind (wpAny_mono h (fun it' s' h' => wpAny_pure (And.intro rfl h')) fun _ _ z => z.elim)))
      | (show wpAny _ _ (standAt c.it.pos >>= _) _ _ s; exact wpAny_bind (wpAny_standAt (wpAny_bind (wpAny_mono h (fun it' s' h' => wpAny_pure (And.intro rfl h')) fun _ _ z => z.elim))))
end
/-- one loop: b the worth of its body for an item, N what a turn is to reach -/
def tLoop (J : It) (H1 : Hp) (b : V → Hp → (Hp → Prop) → Prop) (Nx : Hp → Prop) : Prop := ∃ W : Nat → Nat → Hp → Prop, (∃ m, W 0 m H1) ∧ ∀ j m H, W j m H →
  (J.stop j H ∧ Nx H) ∨ (J.go j H ∧ ∃ N : Hp → Prop, (∀ H', N H' → ∃ m', m' < m ∧ W (j + 1) m' H') ∧ ∀ x H', J.yld j H x H' → b x H' N)
def tBody (D : Addr) (te : TE) : List Cl → St → Hp → (Hp → Prop) → Prop
  | [], σ, H, Nx => te σ H fun y H4 => ∃ acc, H4 D = some (.lst acc) ∧ acc.length < sizeLine ∧ Nx (upd H4 D (.lst (acc ++ [y])))
  | c :: cs, σ, H, Nx => c.w σ H fun J H1 => tLoop J H1 (fun x H' N => tBody D te cs (σ.set c.i (some x)) H' N) Nx
theorem set_none {σ : St} {i : Nat} {x : V} (hn : ∀ v, σ[i]? ≠ some (some v)) : ∀ (j : Nat) (v : V), σ[j]? = some (some v) → (σ.set i (some x))[j]? = some (some v) := fun j v e => by
  by_cases c : i = j
  · subst c; exact (hn v e).elim
  · rw [List.getElem?_set_ne c]; exact e
theorem loopN_ok {B : Cx} {elt : Expr} {gens : List Comprehension} {scope : Scope} {pos : Pos} {D : Addr} {te : TE} (hc : B.calm = true) (hx : B.xe = fun _ _ => False) (he : PE B elt te) : ∀ (cs : List Cl) (c : Cl) (k : Nat) (pins : List (Addr × Obj)) (σ : St) (H : Hp) (s : Shared) (it : Addr) (fp : List Addr) (tn : Nat → Heap → Prop) (J : It) (R : Result → Shared → Prop) (Nx : Hp → Prop),
    (∀ j, gens[k + j]? = ((c :: cs)[j]?).map Cl.gen) → (∀ c' ∈ c :: cs, PG B c'.tg (gName c'.i)) → (∀ c' ∈ cs, PI B c'.tg c'.it c'.w ∧ ∀ x, foldedSetIterable c'.it B.env x = pure x) →
    ((c :: cs).map Cl.i).Nodup → (∀ c' ∈ c :: cs, ∀ v, σ[c'.i]? ≠ some (some v)) → Turn B.prog B.w B.K c.tg J fp it tn → (∀ H', (∀ b ∈ fp, H' b = none) → ∀ b ∈ fp, FpOk B pins H' b) →
    Inv B pins σ H s → tn 0 s.heap → (∀ b ∈ fp, H b = none) → tLoop J H (fun x H' N => tBody D te cs (σ.set c.i (some x)) H' N) Nx → (∀ s' H', Inv B pins σ H' s' → Nx H' → R (.ok .next) s') →
    codeAny (model B.prog B.w) B.A (.compLoop (Cmp elt gens scope pos) k (.ref it) (.ref D) B.env) R s := by
  intro cs
  induction cs with
  | nil =>
    intro c k pins σ H s it fp tn J R Nx hgen hg hi nd hn T hst I st nf ⟨W, ⟨m0, w0⟩, turn⟩ hfin
    have hk : gens[k]? = some c.gen := hgen 0
    have hk1 : gens[k + 1]? = none := hgen 1
    refine loop_last hk hk1 (fun n s' => ∃ i H', Inv B pins σ H' s' ∧ tn i s'.heap ∧ (∀ b ∈ fp, H' b = none) ∧ W i n H') ?_ m0 ⟨0, H, I, st, nf, w0⟩
    rintro n s5 ⟨i, H5, I5, st5, n5, w5⟩
    rcases turn i n H5 w5 with ⟨stop, qq⟩ | ⟨go, N, hN, step⟩
    · refine thnF (T.done B rfl rfl rfl hc i pins s5 σ H5 (fun _ _ => False) I5 (hst H5 n5) st5 stop) fun r s6 ⟨hr, I6⟩ => ?_
      subst hr
      exact hfin s6 H5 I6 qq
    · refine thnF (T.item B rfl rfl rfl hc i pins s5 σ H5 (fun _ _ => False) I5 (hst H5 n5) st5 go) fun r s6 ⟨u, hr, h6⟩ => ?_
      subst hr
      refine thnF h6 fun _ s7 ⟨x, H7, I7, r7, y7, st7, n7⟩ => ?_
      have I7' := I7.pinned (hst H7 n7) (T.obj _ _ st7)
      have fin : ∀ {s' : Shared} {H' : Hp}, Inv B (pins ++ pinsAt fp s7.heap) (σ.set c.i (some x)) H' s' → N H' → ∃ m, m < n ∧ ∃ i H', Inv B pins σ H' s' ∧ tn i s'.heap ∧ (∀ b ∈ fp, H' b = none) ∧ W i m H' := fun {s' H'} I' nx => by
        obtain ⟨m', hm, w'⟩ := hN H' nx
        have pin' : ∀ b ∈ fp, ∀ o, s7.heap.get? b = some o → s'.heap.get? b = some o ∧ H' b = none := fun b hb o e =>
          let z := I'.pin (b, o) (List.mem_append_right _ (List.mem_append_right _ (mem_pinsAt hb e)))
          ⟨z.1, z.2.1⟩
        refine ⟨m', hm, i + 1, H', I'.unpinned.weak (List.length_set ..).symm (set_none (hn c List.mem_cons_self)), T.keep _ _ _ st7 fun b hb o e => (pin' b hb o e).1, fun b hb => ?_, w'⟩
        obtain ⟨o, e, _⟩ := T.obj _ _ st7 b hb
        exact (pin' b hb o e).2
      have pg := (hg c List.mem_cons_self).run _ s7 σ H7 x u (fun σ' H' => σ' = σ.set c.i (some x) ∧ tBody D te [] (σ.set c.i (some x)) H' N) I7' r7 ⟨rfl, step x H7 y7⟩
      rw [hx] at pg
      refine thnF pg fun _ s8 ⟨σ8, H8, I8, e8, q8⟩ => ?_
      subst e8
      have pe := he.run _ s8 _ H8 _ I8 q8
      rw [hx] at pe
      refine thnF pe fun z s10 ⟨yv, H10, I10, r10, acc, hD10, hz10, nx⟩ => ?_
      exact app_ok I10 hD10 hz10 r10 fun s11 I11 => fin I11 nx
  | cons c1 cs ih =>
    intro c k pins σ H s it fp tn J R Nx hgen hg hi nd hn T hst I st nf ⟨W, ⟨m0, w0⟩, turn⟩ hfin
    have hk : gens[k]? = some c.gen := hgen 0
    have hk1 : gens[k + 1]? = some c1.gen := hgen 1
    obtain ⟨hi1, hs1⟩ := hi c1 List.mem_cons_self
    refine loop_more hk hk1 hs1 (fun n s' => ∃ i H', Inv B pins σ H' s' ∧ tn i s'.heap ∧ (∀ b ∈ fp, H' b = none) ∧ W i n H') ?_ m0 ⟨0, H, I, st, nf, w0⟩
    rintro n s5 ⟨i, H5, I5, st5, n5, w5⟩
    rcases turn i n H5 w5 with ⟨stop, qq⟩ | ⟨go, N, hN, step⟩
    · refine thnF (T.done B rfl rfl rfl hc i pins s5 σ H5 (fun _ _ => False) I5 (hst H5 n5) st5 stop) fun r s6 ⟨hr, I6⟩ => ?_
      subst hr
      exact hfin s6 H5 I6 qq
    · refine thnF (T.item B rfl rfl rfl hc i pins s5 σ H5 (fun _ _ => False) I5 (hst H5 n5) st5 go) fun r s6 ⟨u, hr, h6⟩ => ?_
      subst hr
      refine thnF h6 fun _ s7 ⟨x, H7, I7, r7, y7, st7, n7⟩ => ?_
      have I7' := I7.pinned (hst H7 n7) (T.obj _ _ st7)
      have fin : ∀ {s' : Shared} {H' : Hp}, Inv B (pins ++ pinsAt fp s7.heap) (σ.set c.i (some x)) H' s' → N H' → ∃ m, m < n ∧ ∃ i H', Inv B pins σ H' s' ∧ tn i s'.heap ∧ (∀ b ∈ fp, H' b = none) ∧ W i m H' := fun {s' H'} I' nx => by
        obtain ⟨m', hm, w'⟩ := hN H' nx
        have pin' : ∀ b ∈ fp, ∀ o, s7.heap.get? b = some o → s'.heap.get? b = some o ∧ H' b = none := fun b hb o e =>
          let z := I'.pin (b, o) (List.mem_append_right _ (List.mem_append_right _ (mem_pinsAt hb e)))
          ⟨z.1, z.2.1⟩
        refine ⟨m', hm, i + 1, H', I'.unpinned.weak (List.length_set ..).symm (set_none (hn c List.mem_cons_self)), T.keep _ _ _ st7 fun b hb o e => (pin' b hb o e).1, fun b hb => ?_, w'⟩
        obtain ⟨o, e, _⟩ := T.obj _ _ st7 b hb
        exact (pin' b hb o e).2
      have pg := (hg c List.mem_cons_self).run _ s7 σ H7 x u (fun σ' H' => σ' = σ.set c.i (some x) ∧ tBody D te (c1 :: cs) (σ.set c.i (some x)) H' N) I7' r7 ⟨rfl, step x H7 y7⟩
      rw [hx] at pg
      refine thnF pg fun _ s8 ⟨σ8, H8, I8, e8, q8⟩ => ?_
      subst e8
      have pi := hi1.run _ s8 _ H8 _ I8 q8
      rw [hx] at pi
      refine thnF pi fun xv s10 hx10 => ?_
      refine thnF hx10 fun itv s11 h11 => ?_
      obtain ⟨it1, fp1, tn1, J1, H11, e1, I11, T1, st11, f11, q11⟩ := h11
      subst e1
      have loop1 := ih c1 (k + 1) (pins ++ pinsAt fp s7.heap) (σ.set c.i (some x)) H11 s11 it1 fp1 tn1 J1 (fun r s' => match r with
        | .ok _ => ∃ m, m < n ∧ ∃ i H', Inv B pins σ H' s' ∧ tn i s'.heap ∧ (∀ b ∈ fp, H' b = none) ∧ W i m H'
        | .error _ => False) N (fun j => by rw [Nat.add_assoc, Nat.add_comm 1 j]; exact hgen (j + 1)) (fun c' hc' => hg c' (List.mem_cons_of_mem _ hc')) (fun c' hc' => hi c' (List.mem_cons_of_mem _ hc')) (List.nodup_cons.mp nd).2
        (fun c' hc' v e => by
          have ne : c.i ≠ c'.i := fun z => (List.nodup_cons.mp nd).1 (List.mem_map.mpr ⟨c', hc', z.symm⟩)
          rw [List.getElem?_set_ne ne] at e
          exact hn c' (List.mem_cons_of_mem _ hc') v e) T1 (fun H' hn' b hb => ⟨hn' b hb, (f11 b hb).2⟩) I11 st11 (fun b hb => (f11 b hb).1) q11 fun s' H' I' nx => fin I' nx
      exact start_k hk1 loop1 (T1.self B.A 0 _ _ _ st11 loop1)
section
variable {X : Cx}
/-- [elt for .. in .. for .. in ..]: D the new list, vs the block's names -/
def tLcN (c : Cl) (cs : List Cl) (te : TE) (vs : List Nat) : TE := fun σ H Q => c.w σ H fun J H1 => ∀ D, H1 D = none → tLoop J (upd H1 D (.lst [])) (fun x H' N => tBody D te cs ((wipe σ vs).set c.i (some x)) H' N) fun H2 => Q (.ref D) H2
theorem wipe_in {σ : St} {v : V} : ∀ {vs : List Nat} {i : Nat}, i ∈ vs → (wipe σ vs)[i]? ≠ some (some v) := fun {vs i} h e => (wipe_some e).2 h
theorem lcN_core {pins : List (Addr × Obj)} {s : Shared} {σ : St} {H : Hp} {Q : VK} {elt : Expr} {c : Cl} {cs : List Cl} {scope : Scope} {own : List (Str × Nat)} {pos pos' : Pos} {te : TE} {use : Option (Value → Sem Unit)} {Qf : Value → Shared → Prop}
    (hc : X.calm = true) (hN : X.N.Nodup) (I : Inv X pins σ H s) (hi : PI X c.tg c.it c.w) (ok : BlkOk X.N X.env.scope scope own) (nd : ((c :: cs).map Cl.i).Nodup) (hv : ∀ c' ∈ c :: cs, c'.i ∈ own.map (·.2))
    (hb : ∀ s H C cl fp, (∀ c' ∈ c :: cs, PG (X.blk s H scope (compEnvC scope cl C X.env) fp) c'.tg (gName c'.i)) ∧ (∀ c' ∈ cs, PI (X.blk s H scope (compEnvC scope cl C X.env) fp) c'.tg c'.it c'.w ∧ ∀ x, foldedSetIterable c'.it (X.blk s H scope (compEnvC scope cl C X.env) fp).env x = pure x) ∧ PE (X.blk s H scope (compEnvC scope cl C X.env) fp) elt te)
    (hs : ∀ x, foldedSetIterable c.it X.env x = pure x) (h : tLcN c cs te (own.map (·.2)) σ H Q)
    (hRR : ∀ D C s' m H', Inv X pins σ H' s' → Q (.ref D) H' → s'.heap.Ns C m → FpOk X pins H' C → compPost (model X.prog X.w) X.A X.xe use Qf (.ref D) C (.ok .next) s') :
    wpAny (model X.prog X.w) X.A (comprehension (Cmp elt ((c :: cs).map Cl.gen) scope pos) scope X.env pos' (newList []) false (eval c.it X.env) use) Qf X.xe s := by
  have cells : ∀ y ∈ scope.names, y.2 = .free → ∃ a, X.env.cells.lookup y.1 = some a := fun y hy e => (ok.free y hy e).elim (fun z => I.ok.has _ (.inl z)) fun z => I.ok.has _ (.inr z)
  refine wpAny_comprehension_free (use := use) (g := c.gen) (gs := cs.map Cl.gen) rfl hs (closure_ok cells) ok.kind (fun y hy e => by rw [ok.uniq y hy, e]) (thn (hi.run pins s σ H _ I h) fun xv s1 hx => thn hx fun itv s2 h2 => ?_)
  obtain ⟨it, fp, tn, J, H2, e, I2, T, st2, f2, q⟩ := h2
  subst e
  refine wpAny_newObj_type (newEnv_comp ?_) (Nat.zero_le sizeLine)
  obtain ⟨D, hD⟩ : ∃ D, s2.heap.objs.size = D := ⟨_, rfl⟩
  have hDn : H2 D = none := I2.hok.fresh (Nat.le_of_eq hD)
  have q := q D hDn
  rw [hD]
  obtain ⟨s3, hs3⟩ : ∃ s3 : Shared, { s2 with heap := s2.heap.push { cls := .type "list", data := .seq ([] : List Value).toArray } } = s3 := ⟨_, rfl⟩
  have h3 : s3.heap = s2.heap.push { cls := .type "list", data := .seq ([] : List Value).toArray } := hs3 ▸ rfl
  have I3 : Inv X pins σ (upd H2 D (.lst [])) s3 := by
    subst hs3
    exact I2.laid (t' := s2.toks) (fun b o e => Heap.get?_push_of_some _ e) (Nat.le_of_eq hD) ⟨Nat.zero_le _, [], 0, .nil, by rw [← hD]; exact Heap.get?_push_size _ rfl⟩
  have f3 : ∀ b ∈ fp, FpOk X pins (upd H2 D (.lst [])) b ∧ b < s3.heap.objs.size := fun b hb => by
    obtain ⟨o, eo, _⟩ := T.obj _ _ st2 b hb
    have lt := Heap.lt_size eo
    have ne : b ≠ D := by rw [← hD]; exact Nat.ne_of_lt lt
    exact ⟨⟨(upd_ne ne).trans (f2 b hb).1, (f2 b hb).2⟩, by rw [h3, Heap.size_push]; exact Nat.lt_succ_of_lt lt⟩
  have st3 : tn 0 s3.heap := T.keep _ _ _ st2 fun b _ o e => by rw [h3]; exact Heap.get?_push_of_some _ e
  have I4 := block_start I3 ok hN f3
  have hbb := hb s3 (upd H2 D (.lst [])) s3.heap.objs.size (cellsFrom (s3.heap.objs.size + 1) scope.names (cloFrom X.env.cells scope.names [])) fp
  have cL : (compEnvC scope (cellsFrom (s3.heap.objs.size + 1) scope.names (cloFrom X.env.cells scope.names [])) s3.heap.objs.size X.env).locals = s3.heap.objs.size := rfl
  rw [show ({ s2 with heap := s2.heap.push { cls := .type "list", data := .seq ([] : List Value).toArray } } : Shared) = s3 from hs3]
  show codeAny _ _ (.compStart (Cmp elt ((c :: cs).map Cl.gen) scope pos) 0 (.ref it) (.ref D) (compEnvC scope (cellsFrom (s3.heap.objs.size + 1) scope.names (cloFrom X.env.cells scope.names [])) s3.heap.objs.size X.env)) (compPost (model X.prog X.w) X.A X.xe use Qf (.ref D) s3.heap.objs.size) _
  generalize compEnvC scope (cellsFrom (s3.heap.objs.size + 1) scope.names (cloFrom X.env.cells scope.names [])) s3.heap.objs.size X.env = ce at I4 hbb cL ⊢
  have hH3 : ∀ b ∈ fp, upd H2 D (.lst []) b = none := fun b hb => (f3 b hb).1.1
  generalize upd H2 D (.lst []) = H3 at I3 I4 hbb hH3 f3 q
  have st4 : tn 0 ({ s3 with heap := pushCells (s3.heap.push { cls := .type "dict", data := .dict #[] }) scope.names } : Shared).heap := T.keep _ _ _ st3 fun b _ o e => pushCells_keeps _ _ _ _ (Heap.get?_push_of_some _ e)
  generalize ({ s3 with heap := pushCells (s3.heap.push { cls := .type "dict", data := .dict #[] }) scope.names } : Shared) = s4 at I4 st4 ⊢
  obtain ⟨hg, hi1, he⟩ := hbb
  have okB := I4.ok
  have loop := loopN_ok (B := X.blk s3 H3 scope ce fp) (gens := (c :: cs).map Cl.gen) (scope := scope) (pos := pos) (D := D) hc rfl he cs c 0 [] (wipe σ (own.map (·.2))) H3 s4 it fp tn J (compPost (model X.prog X.w) X.A X.xe use Qf (.ref D) s3.heap.objs.size) (fun H2 => Q (.ref D) H2)
    (fun j => by rw [Nat.zero_add, List.getElem?_map]) hg hi1 nd (fun c' hc' v => wipe_in (hv c' hc')) T (fun H' nn b hb => ⟨nn b hb, (okB.exf b hb).1, okB.exfs b hb, .inl hb, fun x a e => (okB.exf b hb).2 x a e, fun p hp => (nomatch hp)⟩) I4 st4 hH3 q fun s6 H6 I6 qq => by
      have I7 : Inv X pins σ H6 s6 := I3.call' (ch := fp) I6.os I6.base I6.hok I6.bare fun b hb => have z := (f3 b hb).1; ⟨z.2.2.2.1, z.2.1, z.2.2.2.2.1, z.2.2.2.2.2⟩
      have nC : H6 s3.heap.objs.size = none := by have z : H6 ce.locals = none := I6.free; rwa [cL] at z
      obtain ⟨m, hn, _⟩ := I6.loc
      have hn : s6.heap.Ns ce.locals m := hn
      rw [cL] at hn
      exact hRR D s3.heap.objs.size s6 m H6 I7 qq hn (I3.fpOk (Nat.le_refl _) nC)
  exact codeAny_compStart_list loop (T.self X.A 0 _ _ _ st4 loop)
theorem pe_lcN {elt : Expr} {c : Cl} {cs : List Cl} {scope : Scope} {own : List (Str × Nat)} {pos : Pos} {te : TE} (hc : X.calm = true) (hN : X.N.Nodup) (hi : PI X c.tg c.it c.w) (ok : BlkOk X.N X.env.scope scope own) (nd : ((c :: cs).map Cl.i).Nodup) (hv : ∀ c' ∈ c :: cs, c'.i ∈ own.map (·.2))
    (hb : ∀ s H C cl fp, (∀ c' ∈ c :: cs, PG (X.blk s H scope (compEnvC scope cl C X.env) fp) c'.tg (gName c'.i)) ∧ (∀ c' ∈ cs, PI (X.blk s H scope (compEnvC scope cl C X.env) fp) c'.tg c'.it c'.w ∧ ∀ x, foldedSetIterable c'.it (X.blk s H scope (compEnvC scope cl C X.env) fp).env x = pure x) ∧ PE (X.blk s H scope (compEnvC scope cl C X.env) fp) elt te)
    (hs : ∀ x, foldedSetIterable c.it X.env x = pure x) : PE X (Cmp elt ((c :: cs).map Cl.gen) scope pos) (tLcN c cs te (own.map (·.2))) := by
  refine ⟨fun pins s σ H Q I h => ?_⟩
  show wpAny _ _ (eval (.ListComp elt ((c :: cs).map Cl.gen) scope pos) X.env) _ _ s
  rw [eval_ListComp]
  refine lcN_core hc hN I hi ok nd hv hb hs h fun D C s' m H' I' q hn f => ⟨m, hn, fun h'' sb => ?_⟩
  obtain ⟨f0, f1, f2, f3, f4, f5⟩ := f
  exact ⟨.ref D, H', I'.turned (t' := s'.toks) (fun b o hb e => (sb.2 b hb).trans e) f0 f1 f3 f4 f5, rfl, q⟩
theorem ps_setLcN {i : Nat} {y : Str} {py : Pos} {elt : Expr} {c : Cl} {cs : List Cl} {scope : Scope} {own : List (Str × Nat)} {pos spos : Pos} {te : TE} (hc : X.calm = true) (hN : X.N.Nodup) (hy : X.N[i]? = some y) (hyl : X.env.scope.names.lookup y = some .local)
    (hsw : swapsWith (Cmp elt ((c :: cs).map Cl.gen) scope pos) (some (.Name y py)) spos.line X.env = pure true) (hi : PI X c.tg c.it c.w) (ok : BlkOk X.N X.env.scope scope own) (nd : ((c :: cs).map Cl.i).Nodup) (hv : ∀ c' ∈ c :: cs, c'.i ∈ own.map (·.2))
    (hb : ∀ s H C cl fp, (∀ c' ∈ c :: cs, PG (X.blk s H scope (compEnvC scope cl C X.env) fp) c'.tg (gName c'.i)) ∧ (∀ c' ∈ cs, PI (X.blk s H scope (compEnvC scope cl C X.env) fp) c'.tg c'.it c'.w ∧ ∀ x, foldedSetIterable c'.it (X.blk s H scope (compEnvC scope cl C X.env) fp).env x = pure x) ∧ PE (X.blk s H scope (compEnvC scope cl C X.env) fp) elt te)
    (hs : ∀ x, foldedSetIterable c.it X.env x = pure x) : PS X (.Assign [.Name y py] (Cmp elt ((c :: cs).map Cl.gen) scope pos) spos) (tAsg (tLcN c cs te (own.map (·.2))) (gName i)) := by
  refine ⟨fun pins s σ H E I h => ?_⟩
  rw [exec_Assign_Name_used _ _ _ _ hsw]
  refine wpAny_bind (wpAny_standAt (wpAny_bind ?_))
  show wpAny _ X.A (do let _ ← comprehension (Cmp elt ((c :: cs).map Cl.gen) scope pos) scope X.env (firstIterPos ((c :: cs).map Cl.gen) pos) (newList []) false (eval c.it X.env) (some (assign (.Name y py) X.env))) _ _ s
  have h : tLcN c cs te (own.map (·.2)) σ H (fun x H1 => gName i x σ H1 E.nx) := h
  refine wpAny_bind (thn (lcN_core (Qf := fun _ s' => SP X pins E .next s') hc hN I hi ok nd hv hb hs h fun L C s' m H' I' q hn f => ?_) fun _ s' hq => wpAny_pure (wpAny_pure hq))
  show wpAny _ _ (assign (.Name y py) X.env (.ref L)) _ _ _
  obtain ⟨f0, f1, f2, f3, f4, f5⟩ := f
  refine wpAny_assign_Name (store_ok2 (v := V.ref L) I' hN hy (.inl hyl) rfl (fun s2 I2 ⟨a, sb, ha⟩ => ⟨m, hn.sameBut sb ?_, fun h3 sb3 => ⟨_, H', I2.turned (t' := s2.toks) (fun b o hb e => (sb3.2 b hb).trans e) f0 f1 f3 f4 f5, q⟩⟩) (.inr hyl))
  exact ha.elim (fun z => by rw [z]; exact f1) fun z e => f4 y a z e.symm
end
end L2
namespace DL
open PySem PySem.Spec PyProof.Rows L2
/-! ### comprehensions of several clauses -/
structure ClD where
  x : Str
  px : Pos
  it : Expr
  i : Nat
  w : WI
def ClD.cl (K : PySem.W.Frag) (c : ClD) : Cl := ⟨c.x, c.px, c.it, c.i, tI K (fun _ _ _ _ => False) c.w⟩
def goW (gd : DH → Prop) (f : D → DH → (DH → Prop) → Prop) (N : DH → Prop) : List D → DH → Prop
  | [], h => N h
  | x :: xs, h => f x h fun h3 => gd h3 ∧ goW gd f N xs h3
def inW (p : Addr) (we : WE) : List (WI × Nat) → Ev → DH → (DH → Prop) → Prop
  | [], env, h, N => we env h (fun y h3 => lstQ h3 (.ref p) fun _ acc => acc.length < sizeLine ∧ N (dup h3 p (.lst (acc ++ [y])))) (fun _ _ => False)
  | (wi, i) :: cs, env, h, N => wi env h (fun s h1 => s.gd h1 ∧ goW s.gd (fun x h2 N2 => inW p we cs (env.set i (some x)) h2 N2) N s.xs h1) (fun _ _ => False)
def wipeE (env : Ev) : List Nat → Ev
  | [] => env
  | v :: vs => (wipeE env vs).set v none
def LcN (i : Nat) (cs : List (WI × Nat)) (we : WE) (env : Ev) (Q : QD) (s : Src) (h1 : DH) : Prop := ∀ p, h1 p = none → s.gd (dup h1 p (.lst [])) ∧ goW s.gd (fun x h2 N2 => inW p we cs (env.set i (some x)) h2 N2) (fun h2 => Q (.ref p) h2) s.xs (dup h1 p (.lst []))
def wLcN (wi : WI) (i : Nat) (cs : List (WI × Nat)) (we : WE) : WE := fun env h Q Qx => wi env h (fun s h1 => LcN i cs we (wipeE env (i :: cs.map (·.2))) Q s h1) Qx
theorem RS.wipe {K : PySem.W.Frag} {H : Hp} {env : Ev} {σ : L2.St} (r : RS K H env σ) : ∀ vs, RS K H (wipeE env vs) (L2.wipe σ vs)
  | [] => r
  | v :: vs => (RS.wipe r vs).clear v
theorem ItOk.on {K : PySem.W.Frag} {H1 H2 : Hp} {s : Src} {J : It} (it : ItOk K H1 s J) (p : Pe H1 H2) : ItOk K H2 s J := fun i H h q => it i H h (p.trans q)
theorem loop_imp {K : PySem.W.Frag} {H1 : Hp} {h1 : DH} {s : Src} {J : It} {f : D → DH → (DH → Prop) → Prop} {b : V → Hp → (Hp → Prop) → Prop} {N : DH → Prop} {Nx : Hp → Prop} (it : ItOk K H1 s J) (r1 : RW K h1 H1) (g1 : s.gd h1) (q : goW s.gd f N s.xs h1)
    (hb : ∀ x v h2 H2 (N2 : DH → Prop) (Nx2 : Hp → Prop), Pe H1 H2 → RW K h2 H2 → RD K H2 x v → f x h2 N2 → (∀ h' H', Pe H2 H' → RW K h' H' → N2 h' → Nx2 H') → b v H2 Nx2)
    (hn : ∀ h' H', Pe H1 H' → RW K h' H' → N h' → Nx H') : tLoop J H1 b Nx := by
  refine ⟨fun j m H' => m = s.xs.length - j ∧ j ≤ s.xs.length ∧ ∃ h', Pe H1 H' ∧ RW K h' H' ∧ s.gd h' ∧ goW s.gd f N (s.xs.drop j) h', ⟨s.xs.length, rfl, Nat.zero_le _, h1, .refl _, r1, g1, q⟩, ?_⟩
  rintro j m H2 ⟨rfl, hle, h2, p2, r2, g2, q2⟩
  rcases Nat.lt_or_ge j s.xs.length with hlt | hge
  · have hx : s.xs[j]? = some s.xs[j] := List.getElem?_eq_getElem hlt
    obtain ⟨go, yl⟩ := (it j H2 h2 p2 r2 g2).1 _ hx
    rw [List.drop_eq_getElem_cons hlt] at q2
    refine .inr ⟨go, fun H' => ∃ h', Pe H1 H' ∧ RW K h' H' ∧ s.gd h' ∧ goW s.gd f N (s.xs.drop (j + 1)) h', fun H' z => ⟨s.xs.length - (j + 1), by omega, rfl, hlt, z⟩, fun v H3 y => ?_⟩
    obtain ⟨p3, r3, rd3⟩ := yl v H3 y
    exact hb _ v h2 H3 _ _ (p2.trans p3) r3 rd3 q2 fun h' H' p4 r4 ⟨g4, q4⟩ => ⟨h', p2.trans (p3.trans p4), r4, g4, q4⟩
  · have e : j = s.xs.length := by omega
    subst e
    rw [List.drop_length] at q2
    exact .inl ⟨(it _ H2 h2 p2 r2 g2).2 rfl, hn h2 H2 p2 r2 q2⟩
theorem body_imp {K : PySem.W.Frag} {p : Addr} {we : WE} : ∀ (cs : List ClD) (env : Ev) (σ : L2.St) (h : DH) (H : Hp) (N : DH → Prop) (Nx : Hp → Prop), RS K H env σ → RW K h H → inW p we (cs.map fun c => (c.w, c.i)) env h N →
    (∀ h' H', Pe H H' → RW K h' H' → N h' → Nx H') → tBody p (tE K (fun _ _ _ _ => False) we) (cs.map (ClD.cl K)) σ H Nx
  | [], env, σ, h, H, N, Nx, rs, rw_, q, fin => by
    refine ⟨env, h, _, _, rs, rw_, q, fun d h5 u H5 p5 r5 rd5 q5 => ?_, noX⟩
    obtain ⟨a, acc, ea, e5, hz, q6⟩ := q5.get
    cases ea
    obtain ⟨vs, hv, rr⟩ := r5 _ _ e5
    have wr : Wr (H5 p) := by rw [hv]; exact True.intro
    have pw : Pe H5 (upd H5 p (.lst (vs ++ [u]))) := Pe.wr wr
    refine ⟨vs, hv, by rw [← rr.length]; exact hz, fin _ _ (p5.trans pw) (r5.set wr ?_) q6⟩
    exact ⟨_, upd_same, (rr.append (.cons rd5 .nil)).mono pw⟩
  | c :: cs, env, σ, h, H, N, Nx, rs, rw_, q, fin => ⟨env, h, _, _, rs, rw_, q, fun s h1 J H1 p1 r1 it q1 => loop_imp it r1 q1.1 q1.2
      (fun x v h2 H2 N2 Nx2 p2 r2 rd q2 k2 => body_imp cs _ _ _ _ _ _ ((rs.mono (p1.trans p2)).set c.i rd) r2 q2 k2) fun h' H' p2 r2 n => fin h' H' (p1.trans p2) r2 n, noX⟩
theorem lcN_imp {K : PySem.W.Frag} {W : WX} {σ : L2.St} {H : Hp} {Q : VK} {x : Str} {px : Pos} {it : Expr} {wi : WI} {i : Nat} {cs : List ClD} {we : WE} (h : tE K W (wLcN wi i (cs.map fun c => (c.w, c.i)) we) σ H Q) :
    tLcN ⟨x, px, it, i, tI K W wi⟩ (cs.map (ClD.cl K)) (tE K (fun _ _ _ _ => False) we) (i :: cs.map (·.i)) σ H Q := by
  obtain ⟨env, h, Qn, Qx, rs, rw_, q, kq, kx⟩ := h
  refine ⟨env, h, _, Qx, rs, rw_, q, fun s h1 J H1 p1 r1 it q1 => fun p hp => ?_, kx⟩
  obtain ⟨gd1, q2⟩ := q1 p (r1.fresh hp)
  have pn : Pe H1 (upd H1 p (.lst [])) := Pe.new hp
  have rs2 := (rs.mono (p1.trans pn)).wipe (i :: (cs.map fun c => (c.w, c.i)).map (·.2))
  rw [show ((cs.map fun c => (c.w, c.i)).map (·.2)) = cs.map (·.i) by rw [List.map_map]; rfl] at rs2 q2
  refine loop_imp (it.on pn) (r1.new hp (show RO K _ p (.lst []) from ⟨[], upd_same, .nil⟩)) gd1 q2 (fun x v h2 H2 N2 Nx2 p2 r2 rd q3 k2 => ?_) fun h' H' p2 r2 n => kq (.ref p) h' (.ref p) H' (p1.trans (pn.trans p2)) r2 (.ref p) n
  exact body_imp cs _ _ _ _ _ _ ((rs2.mono p2).set i rd) r2 q3 k2
/-- the clauses behind the first, in the block -/
inductive DCs (B : Cx) : List Comprehension → List ClD → Prop
  | nil : DCs B [] []
  | cons {x : Str} {px : Pos} {it : Expr} {i : Nat} {w : WI} {gs : List Comprehension} {cs : List ClD} : PG B (.Name x px) (gName i) → DI B (.Name x px) it w → (∀ v, foldedSetIterable it B.env v = pure v) → DCs B gs cs → DCs B (⟨.Name x px, it, [], 0⟩ :: gs) (⟨x, px, it, i, w⟩ :: cs)
theorem DCs.gens {B : Cx} (K : PySem.W.Frag) : ∀ {gs : List Comprehension} {cs : List ClD}, DCs B gs cs → gs = (cs.map (ClD.cl K)).map Cl.gen
  | _, _, .nil => rfl
  | _, _, .cons _ _ _ r => by rw [List.map_cons, List.map_cons, ← DCs.gens K r]; rfl
theorem DCs.pg {B : Cx} : ∀ {gs : List Comprehension} {cs : List ClD}, DCs B gs cs → ∀ c' ∈ cs.map (ClD.cl B.K), PG B c'.tg (gName c'.i)
  | _, _, .nil, _, h => nomatch h
  | _, _, .cons a _ _ r, c', h => by
    rcases List.mem_cons.mp h with e | h
    · subst e; exact a
    · exact DCs.pg r c' h
theorem DCs.pi {B : Cx} (ck : Cok B (fun _ _ _ _ => False)) : ∀ {gs : List Comprehension} {cs : List ClD}, DCs B gs cs → ∀ c' ∈ cs.map (ClD.cl B.K), PI B c'.tg c'.it c'.w ∧ ∀ x, foldedSetIterable c'.it B.env x = pure x
  | _, _, .nil, _, h => nomatch h
  | _, _, .cons _ b e r, c', h => by
    rcases List.mem_cons.mp h with z | h
    · subst z; exact ⟨b.ok _ ck, e⟩
    · exact DCs.pi ck r c' h
section
variable {X : Cx} {elt iter : Expr} {gs : List Comprehension} {cs : List ClD} {ws : List (WI × Nat)} {scope : Scope} {x y : Str} {pos pp py spos : Pos} {wi : WI} {we : WE} {i iy : Nat} {own : List (Str × Nat)}
theorem de_lcN (hN : X.N.Nodup) (hi : DI X (.Name x pp) iter wi) (own : List (Str × Nat)) (ok : BlkOk X.N X.env.scope scope own)
    (hg : ∀ (s : Shared) (H : Hp) (C : Addr) (cl : List (Str × Addr)) (fp : List Addr), PG (X.blk s H scope (compEnvC scope cl C X.env) fp) (.Name x pp) (gName i))
    (hcs : ∀ (s : Shared) (H : Hp) (C : Addr) (cl : List (Str × Addr)) (fp : List Addr), DCs (X.blk s H scope (compEnvC scope cl C X.env) fp) gs cs)
    (he : ∀ (s : Shared) (H : Hp) (C : Addr) (cl : List (Str × Addr)) (fp : List Addr), DE (X.blk s H scope (compEnvC scope cl C X.env) fp) elt we)
    (hw : (cs.map fun c => (c.w, c.i)) = ws) (ho : own.map (·.2) = i :: cs.map (·.i)) (nd : (own.map (·.2)).Nodup)
    (hc : X.calm = true := by rfl) (hs : ∀ x, foldedSetIterable iter X.env x = pure x := by intro _; rfl) : DE X (.ListComp elt (⟨.Name x pp, iter, [], 0⟩ :: gs) scope pos) (wLcN wi i ws we) := by
  refine ⟨fun W ck => ?_⟩
  subst hw
  have eg : gs = (cs.map (ClD.cl X.K)).map Cl.gen := (hcs X.s_0 X.H_0 0 [] []).gens X.K
  subst eg
  have m := pe_lcN (X := X) (elt := elt) (c := ⟨x, pp, iter, i, tI X.K W wi⟩) (cs := cs.map (ClD.cl X.K)) (scope := scope) (own := own) (pos := pos) (te := tE X.K (fun _ _ _ _ => False) we) hc hN (hi.ok W ck) ok
    (by rw [List.map_cons, List.map_map, show (Cl.i ∘ ClD.cl X.K) = ClD.i from rfl, ← ho]; exact nd) (fun c' hc' => by
      rw [ho]
      rcases List.mem_cons.mp hc' with e | h
      · subst e; exact List.mem_cons_self
      · obtain ⟨d, hd, rfl⟩ := List.mem_map.mp h
        exact List.mem_cons_of_mem _ (List.mem_map.mpr ⟨d, hd, rfl⟩)) (fun s H C cl fp => ⟨fun c' hc' => (List.mem_cons.mp hc').elim (fun e => e ▸ hg s H C cl fp) fun h => (hcs s H C cl fp).pg c' h, (hcs s H C cl fp).pi cok_blk, (he s H C cl fp).ok _ cok_blk⟩) hs
  rw [ho] at m
  exact m.imp fun σ H Q h => lcN_imp h
theorem ds_setLcN (hN : X.N.Nodup) (hi : DI X (.Name x pp) iter wi) (own : List (Str × Nat)) (ok : BlkOk X.N X.env.scope scope own)
    (hg : ∀ (s : Shared) (H : Hp) (C : Addr) (cl : List (Str × Addr)) (fp : List Addr), PG (X.blk s H scope (compEnvC scope cl C X.env) fp) (.Name x pp) (gName i))
    (hcs : ∀ (s : Shared) (H : Hp) (C : Addr) (cl : List (Str × Addr)) (fp : List Addr), DCs (X.blk s H scope (compEnvC scope cl C X.env) fp) gs cs)
    (he : ∀ (s : Shared) (H : Hp) (C : Addr) (cl : List (Str × Addr)) (fp : List Addr), DE (X.blk s H scope (compEnvC scope cl C X.env) fp) elt we)
    (hw : (cs.map fun c => (c.w, c.i)) = ws) (ho : own.map (·.2) = i :: cs.map (·.i)) (nd : (own.map (·.2)).Nodup)
    (hsw : swapsWith (.ListComp elt (⟨.Name x pp, iter, [], 0⟩ :: gs) scope pos) (some (.Name y py)) spos.line X.env = pure true)
    (hy : X.N[iy]? = some y := by rfl) (hyl : X.env.scope.names.lookup y = some .local := by rfl)
    (hc : X.calm = true := by rfl) (hs : ∀ x, foldedSetIterable iter X.env x = pure x := by intro _; rfl) : DS X (.Assign [.Name y py] (.ListComp elt (⟨.Name x pp, iter, [], 0⟩ :: gs) scope pos) spos) (wSet iy (wLcN wi i ws we)) := by
  refine ⟨fun W ck => ?_⟩
  subst hw
  have eg : gs = (cs.map (ClD.cl X.K)).map Cl.gen := (hcs X.s_0 X.H_0 0 [] []).gens X.K
  subst eg
  have m := ps_setLcN (X := X) (i := iy) (y := y) (py := py) (elt := elt) (c := ⟨x, pp, iter, i, tI X.K W wi⟩) (cs := cs.map (ClD.cl X.K)) (scope := scope) (own := own) (pos := pos) (spos := spos) (te := tE X.K (fun _ _ _ _ => False) we) hc hN hy hyl hsw (hi.ok W ck) ok
    (by rw [List.map_cons, List.map_map, show (Cl.i ∘ ClD.cl X.K) = ClD.i from rfl, ← ho]; exact nd) (fun c' hc' => by
      rw [ho]
      rcases List.mem_cons.mp hc' with e | h
      · subst e; exact List.mem_cons_self
      · obtain ⟨d, hd, rfl⟩ := List.mem_map.mp h
        exact List.mem_cons_of_mem _ (List.mem_map.mpr ⟨d, hd, rfl⟩)) (fun s H C cl fp => ⟨fun c' hc' => (List.mem_cons.mp hc').elim (fun e => e ▸ hg s H C cl fp) fun h => (hcs s H C cl fp).pg c' h, (hcs s H C cl fp).pi cok_blk, (he s H C cl fp).ok _ cok_blk⟩) hs
  rw [ho] at m
  exact m.imp fun D σ H ⟨E, env, h, rs, rw_, q, ks⟩ =>
    lcN_imp ⟨env, h, _, _, rs, rw_, q, fun d h1 v H1 p1 r1 rd q1 => ks.nx _ h1 _ H1 p1 ((rs.mono p1).set iy rd) r1 q1, ks.kx rs⟩
end
section
variable {wi : WI} {i : Nat} {ws : List (WI × Nat)} {we : WE} {env : Ev} {h h1 hB : DH} {p : Addr} {Q : QD} {Qx : QX} {N : DH → Prop} {gd : DH → Prop} {f : D → DH → (DH → Prop) → Prop} {xs : List D}
theorem zELcN : wLcN wi i ws we env h Q Qx = wi env h (fun s h1 => LcN i ws we (wipeE env (i :: ws.map (·.2))) Q s h1) Qx := rfl
/-- what appends L to the list at p and leaves the rest as it is -/
def Apps (p : Addr) (hB : DH) (L : List D) (b : DH → (DH → Prop) → Prop) : Prop := ∀ (h : DH) (acc : List D) (N : DH → Prop), Sub hB h → h p = some (.lst acc) → acc.length + L.length ≤ 100000 → (∀ h2, Sub hB h2 → h2 p = some (.lst (acc ++ L)) → N h2) → b h N
theorem goW_apps (F : Nat → List D) (hgd : ∀ h, Sub hB h → gd h) (hf : ∀ i x, xs[i]? = some x → Apps p hB (F i) (f x)) : Apps p hB ((List.range xs.length).flatMap F) (fun h N => goW gd f N xs h) := by
  have go : ∀ (n k : Nat), k + n = xs.length → Apps p hB ((List.range' k n).flatMap F) (fun h N => goW gd f N (xs.drop k) h) := by
    intro n
    induction n with
    | zero =>
      intro k e h acc N sb a1 _ q
      rw [List.drop_eq_nil_of_le (by omega)]
      exact q h sb (by rw [a1]; simp)
    | succ n ih =>
      intro k e h acc N sb a1 hl q
      have hk : k < xs.length := by omega
      rw [List.drop_eq_getElem_cons hk]
      rw [List.range'_succ, List.flatMap_cons] at hl q
      rw [List.length_append] at hl
      refine hf k _ (List.getElem?_eq_getElem hk) h acc _ sb a1 (by omega) fun h2 s2 e2 => ⟨hgd h2 s2, ?_⟩
      refine ih (k + 1) (by omega) h2 _ N s2 e2 (by rw [List.length_append]; omega) fun h3 s3 e3 => q h3 s3 ?_
      rw [e3, List.append_assoc]
  have z := go xs.length 0 (Nat.zero_add _)
  rw [← List.range_eq_range'] at z
  exact z
theorem apps_leaf {d : D} (hp : hB p = none) (hw : ∀ (h : DH) (R : QD), Sub hB h → (∀ h2, Sub h h2 → R d h2) → we env h R (fun _ _ => False)) : Apps p hB [d] (fun h N => inW p we [] env h N) := fun h acc N sb a1 hl q =>
  hw h _ sb fun h2 s2 => by
    have e2 := s2 _ _ a1
    refine lstQ_i e2 ⟨?_, q _ (sub_dup0 (sb.trans s2) hp) dup_same⟩
    have : acc.length + 1 ≤ 100000 := hl
    rw [sizeLine_eq]
    omega
theorem apps_in (F : Nat → List D) (hw : ∀ (h : DH) (R : Src → DH → Prop), Sub hB h → (∀ h2, Sub h h2 → R ⟨xs, gd⟩ h2) → wi env h R (fun _ _ => False)) (hgd : ∀ h, Sub hB h → gd h)
    (hf : ∀ j x, xs[j]? = some x → Apps p hB (F j) (fun h N => inW p we ws (env.set i (some x)) h N)) : Apps p hB ((List.range xs.length).flatMap F) (fun h N => inW p we ((wi, i) :: ws) env h N) := fun h acc N sb a1 hl q =>
  hw h _ sb fun h2 s2 => ⟨hgd h2 (sb.trans s2), goW_apps F hgd hf h2 acc N (sb.trans s2) (s2 _ _ a1) hl q⟩
theorem lcN_apps (F : Nat → List D) (hgd : ∀ h, Sub h1 h → gd h) (hl : ((List.range xs.length).flatMap F).length ≤ 100000) (hf : ∀ p, h1 p = none → ∀ j x, xs[j]? = some x → Apps p h1 (F j) (fun h N => inW p we ws (env.set i (some x)) h N))
    (q : ∀ p h', h1 p = none → Sub h1 h' → h' p = some (.lst ((List.range xs.length).flatMap F)) → Q (.ref p) h') : LcN i ws we env Q ⟨xs, gd⟩ h1 := fun p hp =>
  ⟨hgd _ (Sub.new hp), goW_apps F hgd (hf p hp) _ [] _ (Sub.new hp) dup_same (by rw [List.length_nil]; omega) fun h2 s2 e2 => q p h2 hp s2 (by rw [e2, List.nil_append])⟩
end
theorem band1 {x : Int} : Builtin.bitAnd x 1 = x % 2 := bitAnd_m1 x
end DL
namespace L2
open PySem PySem.Spec PyProof.Rows
/-! ### sorted(d) of a dict whose keys are ints, any number of them -/
section
variable {X : Cx}
theorem keyInts {P : Program} {w : World} {us : List Value} {ks : List Int} {vs : List (Key × Value)} (hk : vs.map (·.1) = ks.map Sum.inl) (hl : us.length = vs.length) (h : ∀ (j : Nat) (v : Value), us[j]? = some v → ∃ k x, vs[j]? = some (k, x) ∧ keyIs k v = true) : IntsAre us ks := by
  have len : us.length = ks.length := by rw [hl, ← List.length_map (f := fun p : Key × Value => p.1), hk, List.length_map]
  refine ints_each len fun j v e => ?_
  obtain ⟨k, x, e1, e2⟩ := h j v e
  have e3 : (ks.map Sum.inl)[j]? = some k := by rw [← hk, List.getElem?_map, e1]; rfl
  rw [List.getElem?_map] at e3
  obtain ⟨y, e4, rfl⟩ := Option.map_eq_some_iff.mp e3
  rcases keyIs_shape e2 with ⟨i, t, ek, ev⟩ | ⟨z, t, ek, ev⟩
  · cases ek; exact ⟨y, t, e4, ev⟩
  · cases ek
theorem call_sortKI (hcalm : X.calm = true) : CallR X (.builtin "sorted") (fun xs H Q => ∃ (a : Addr) (kvs : List (Key × V)) (ks : List Int), xs = [.ref a] ∧ Rd H a (.dK kvs) ∧ kvs.map (·.1) = ks.map Sum.inl ∧ ∀ (ys : List Int) (p : Addr), ys.Perm ks → ys.Pairwise (· ≤ ·) → H p = none → Q (.ref p) (upd H p (.lst (ys.map V.int)))) := by
  rintro pins s σ H xs us Q I r ⟨a, kvs, ks, rfl, hd, hks, q⟩
  obtain ⟨u, rfl, rx⟩ := vals1 r; cases rx
  obtain ⟨z, lo, vs, rel, dd⟩ := dk_rd I.hok hd
  obtain ⟨ep, hat⟩ := dd.dictAt
  have kk : vs.map (·.1) = ks.map Sum.inl := rel.keys.symm.trans hks
  have hz : vs.length ≤ sizeLine := by rw [← rel.length]; exact z
  refine Calls.call_function_entry PyProof.Rows.kind_sorted PyProof.Rows.plain_sorted PyProof.Rows.entry_sorted (PyProof.Rows.args_sorted1 _) ?_; unfold Builtin.«sorted»
  refine wpAny_bind (m := checkCount "sorted" 1 1 _) (wpAny_pure (wpAny_bind (PySem.W.kdu_collect (A := X.A.in1) (PySem.W.kdl_dict (knd := mixKind X.prog X.w) (kvs := vs) (ep := ep) lo) (I.ok.hd hcalm) hat hz fun h' tk acc hk hacc => ?_)))
  have lacc : acc.toList.length = vs.length := by rw [Array.length_toList]; exact hacc.1
  have ia : IntsAre acc.toList ks := keyInts (P := X.prog) (w := X.w) kk lacc fun j v e => hacc.2 j v (by rw [← Array.getElem?_toList]; exact e)
  have I1 : Inv X pins σ H { s with heap := h', toks := tk } := I.kept hk
  refine wpAny_bind (wpAny_newList ?_ (by rw [lacc]; exact hz)); show wpAny _ _ _ _ _ { s with heap := h'.push (seqObj "list" acc.toList.toArray 0), toks := tk }
  have hoL : (h'.push (seqObj "list" acc.toList.toArray 0)).get? h'.objs.size = some (seqObj "list" acc.toList.toArray 0) := Heap.get?_push_size _ rfl
  refine wpAny_bind (wpAny_holding (wpAny_call_entry PyProof.Rows.slot_list_sort ⟨_, hoL, rfl⟩ PyProof.Rows.entry_list_sort (SrtO.list_sort_ord (s := { s with heap := h'.push (seqObj "list" acc.toList.toArray 0), toks := tk }) SrtO.swo_int hoL (by rw [lacc]; exact hz) (fun h2 => SrtO.ints_sortable ia h2) fun out h1 h2 => ⟨_, rfl, ?_⟩) (PyProof.Rows.args_list_sort _)))
  obtain ⟨k1, k2, k3⟩ := SrtO.ints_out ia h1 h2
  obtain ⟨e', he'⟩ := PyProof.Rows.sortedHeap_at (vs := acc.toList) (out := out.toArray) hoL
  have lk : ((out.map SrtO.iv).map V.int).length ≤ sizeLine := by
    rw [List.length_map, k2.length_eq, ← List.length_map (f := (Sum.inl : Int → Key)), ← kk, List.length_map]; exact hz
  refine wpAny_pure ⟨_, rfl, .ref h'.objs.size, upd H h'.objs.size (.lst ((out.map SrtO.iv).map V.int)), I1.laid (t' := tk) (fun b u e => ?_) (Nat.le_refl _) (show ObjOk X.prog X.w _ _ _ (.lst ((out.map SrtO.iv).map V.int)) from ⟨lk, out, e', vals_of_ints k1, he'⟩), rfl, q _ _ k2 k3 (I1.hok.fresh (Nat.le_refl _))⟩
  have hb : b < h'.objs.size := Heap.lt_size e
  rw [PyProof.Rows.sortedHeap_old (Nat.ne_of_lt hb) (by rw [size_push']; exact Nat.lt_succ_of_lt hb)]; exact Heap.get?_push_of_some _ e
end
end L2
namespace DL
open PySem PySem.Spec PyProof.Rows L2
section
variable {X : Cx} {h : DH} {Q : QD} {p : Addr}
def gSortK : GC := fun xs h Q => One (fun d => KeysK h d fun kvs => ∃ ks : List Int, kvs.map (·.1) = ks.map Sum.inl ∧ ∀ ys : List Int, ys.Perm ks → ys.Pairwise (· ≤ ·) → NewL h (ys.map D.int) Q) xs
theorem rd_ints {K : PySem.W.Frag} {H : Hp} : ∀ (ys : List Int), RDs K H (ys.map D.int) (ys.map V.int)
  | [] => .nil
  | y :: ys => .cons (.int y) (rd_ints ys)
theorem c_sortK (hc : X.calm = true := by rfl) : OpC X (.builtin "sorted") gSortK := by
  refine ⟨_, call_sortKI hc, ?_⟩
  intro xs h Qn H vs Q rds rw_ q kq
  obtain ⟨d, v, rfl, rfl, rd, q⟩ := one_inv rds q
  obtain ⟨a, kvs, rfl, e, ks, ek, q⟩ := q.get
  cases rd
  obtain ⟨us, hv, en, rr⟩ := rw_ _ _ e
  exact ⟨a, us, ks, rfl, .inl hv, en.trans ek, fun ys p h1 h2 hp => newL_ok (.refl H) rw_ (rd_ints ys) (q ys h1 h2) kq hp⟩
theorem sortK_i {kvs : List (Key × D)} {ks : List Int} (e : h p = some (.dK kvs)) (ek : kvs.map (·.1) = ks.map Sum.inl) (q : ∀ ys : List Int, ys.Perm ks → ys.Pairwise (· ≤ ·) → NewL h (ys.map D.int) Q) : gSortK [.ref p] h Q := by
  show KeysK h (.ref p) _
  unfold KeysK
  dsimp only
  rw [e]
  exact ⟨ks, ek, q⟩
end
end DL
namespace My
open PySem PySem.Spec PyProof.Rows L2 DL
def top (i : Nat) : Stmt := PySem.Challenge.pw_stepdown_k06_blocks_and_rows_of_bits.main.body.getD i (.Pass ⟨0, 0, 0, 0⟩)
abbrev s_law_cell : Stmt := top 22
abbrev s_law_mixed : Stmt := top 23
abbrev s_law_digits : Stmt := top 24
abbrev s_is_whole : Stmt := top 2
abbrev s_is_number : Stmt := top 3
abbrev s_is_row : Stmt := top 13
abbrev s_Tapedd_initdd : Stmt := inClass (top 14) 0
abbrev s_law_tape : Stmt := top 25
abbrev s_width : Stmt := top 16
abbrev s_TwoMarksddread : Stmt := inClass (top 19) 1
abbrev s_Tape_row : Stmt := inClass (top 14) 1
abbrev s_TwoMarksddwrite : Stmt := inClass (top 19) 2
abbrev s_TwoMarksddread_row : Stmt := inClass (top 19) 7
abbrev s_TwoMarksddread_rows : Stmt := inClass (top 19) 4
abbrev s_TwoMarksddgo : Stmt := inClass (top 19) 3
abbrev s_TwoMarksddwrite_row : Stmt := inClass (top 19) 8
abbrev s_TwoMarksddwrite_rows : Stmt := inClass (top 19) 5
abbrev s_TwoMarksddgo_row : Stmt := inClass (top 19) 9
abbrev s_TwoMarksddgo_rows : Stmt := inClass (top 19) 6
abbrev s_TwoMarksdd_initdd : Stmt := inClass (top 19) 0
abbrev s_law_refused : Stmt := top 40
abbrev s_law_width : Stmt := top 29
abbrev s_law_is_integer : Stmt := top 21
abbrev s_block : Stmt := top 17
abbrev s_are_numbers : Stmt := top 4
abbrev s_mark_of : Stmt := top 18
abbrev s_law_block : Stmt := top 30
abbrev s_law_power : Stmt := top 33
abbrev s_law_prefixes : Stmt := top 34
abbrev s_law_value : Stmt := top 31
abbrev s_Tape_table : Stmt := inClass (top 14) 2
abbrev s_law_read : Stmt := top 35
abbrev s_law_write : Stmt := top 36
abbrev s_law_read_row : Stmt := top 38
abbrev s_law_go : Stmt := top 37
abbrev s_law_rows : Stmt := top 39
abbrev s_law : Stmt := top 41
structure Tx (K : PySem.W.Frag) (mg : Str → Option Value) where
  C_Tape : Addr
  cl_Tape : Cls K C_Tape
  mc_Tape : mg "Tape" = some (.ref C_Tape)
  na_Tape_marks : NoAttr K C_Tape "marks"
  na_Tape_states : NoAttr K C_Tape "states"
  na_Tape__rows : NoAttr K C_Tape "_rows"
  C_TwoMarks : Addr
  cl_TwoMarks : Cls K C_TwoMarks
  mc_TwoMarks : mg "TwoMarks" = some (.ref C_TwoMarks)
  na_TwoMarks_upper : NoAttr K C_TwoMarks "upper"
  na_TwoMarks__width : NoAttr K C_TwoMarks "_width"
  na_TwoMarks_lower : NoAttr K C_TwoMarks "lower"
  a_law_cell : Addr
  d_law_cell : FuncData
  F_law_cell : Fun K "_law_cell" "_law_cell" s_law_cell a_law_cell d_law_cell
  b_law_cell : Binds K d_law_cell ["script", "k"] []
  m_law_cell : mg "_law_cell" = some (.ref a_law_cell)
  a_law_mixed : Addr
  d_law_mixed : FuncData
  F_law_mixed : Fun K "_law_mixed" "_law_mixed" s_law_mixed a_law_mixed d_law_mixed
  b_law_mixed : Binds K d_law_mixed ["cell", "k"] []
  m_law_mixed : mg "_law_mixed" = some (.ref a_law_mixed)
  a_law_digits : Addr
  d_law_digits : FuncData
  F_law_digits : Fun K "_law_digits" "_law_digits" s_law_digits a_law_digits d_law_digits
  b_law_digits : Binds K d_law_digits ["cell", "count", "many"] []
  m_law_digits : mg "_law_digits" = some (.ref a_law_digits)
  a_is_whole : Addr
  d_is_whole : FuncData
  F_is_whole : Fun K "is_whole" "is_whole" s_is_whole a_is_whole d_is_whole
  b_is_whole : Binds K d_is_whole ["value"] []
  m_is_whole : mg "is_whole" = some (.ref a_is_whole)
  a_is_number : Addr
  d_is_number : FuncData
  F_is_number : Fun K "is_number" "is_number" s_is_number a_is_number d_is_number
  b_is_number : Binds K d_is_number ["value", "low", "high"] []
  m_is_number : mg "is_number" = some (.ref a_is_number)
  a_is_row : Addr
  d_is_row : FuncData
  F_is_row : Fun K "is_row" "is_row" s_is_row a_is_row d_is_row
  b_is_row : Binds K d_is_row ["value", "marks", "states"] []
  m_is_row : mg "is_row" = some (.ref a_is_row)
  a_Tapedd_initdd : Addr
  d_Tapedd_initdd : FuncData
  F_Tapedd_initdd : Fun K "__init__" "Tape.__init__" s_Tapedd_initdd a_Tapedd_initdd d_Tapedd_initdd
  b_Tapedd_initdd : Binds K d_Tapedd_initdd ["self", "marks", "states", "rows"] []
  mk_Tape : Mk K C_Tape a_Tapedd_initdd
  a_law_tape : Addr
  d_law_tape : FuncData
  F_law_tape : Fun K "_law_tape" "_law_tape" s_law_tape a_law_tape d_law_tape
  b_law_tape : Binds K d_law_tape ["numbers", "most_marks", "most_states"] []
  m_law_tape : mg "_law_tape" = some (.ref a_law_tape)
  a_width : Addr
  d_width : FuncData
  F_width : Fun K "width" "width" s_width a_width d_width
  b_width : Binds K d_width ["marks"] []
  m_width : mg "width" = some (.ref a_width)
  a_TwoMarksddread : Addr
  d_TwoMarksddread : FuncData
  F_TwoMarksddread : Fun K "_read" "TwoMarks._read" s_TwoMarksddread a_TwoMarksddread d_TwoMarksddread
  b_TwoMarksddread : Binds K d_TwoMarksddread ["self", "state", "size", "value"] []
  me_TwoMarksddread : Meth K C_TwoMarks "_read" a_TwoMarksddread
  a_Tape_row : Addr
  d_Tape_row : FuncData
  F_Tape_row : Fun K "row" "Tape.row" s_Tape_row a_Tape_row d_Tape_row
  b_Tape_row : Binds K d_Tape_row ["self", "state", "mark"] []
  me_Tape_row : Meth K C_Tape "row" a_Tape_row
  a_TwoMarksddwrite : Addr
  d_TwoMarksddwrite : FuncData
  F_TwoMarksddwrite : Fun K "_write" "TwoMarks._write" s_TwoMarksddwrite a_TwoMarksddwrite d_TwoMarksddwrite
  b_TwoMarksddwrite : Binds K d_TwoMarksddwrite ["self", "state", "side", "size", "value"] []
  me_TwoMarksddwrite : Meth K C_TwoMarks "_write" a_TwoMarksddwrite
  a_TwoMarksddread_row : Addr
  d_TwoMarksddread_row : FuncData
  F_TwoMarksddread_row : Fun K "_read_row" "TwoMarks._read_row" s_TwoMarksddread_row a_TwoMarksddread_row d_TwoMarksddread_row
  b_TwoMarksddread_row : Binds K d_TwoMarksddread_row ["self", "state", "size", "value", "bit"] []
  me_TwoMarksddread_row : Meth K C_TwoMarks "_read_row" a_TwoMarksddread_row
  a_TwoMarksddread_rows : Addr
  d_TwoMarksddread_rows : FuncData
  F_TwoMarksddread_rows : Fun K "_read_rows" "TwoMarks._read_rows" s_TwoMarksddread_rows a_TwoMarksddread_rows d_TwoMarksddread_rows
  b_TwoMarksddread_rows : Binds K d_TwoMarksddread_rows ["self"] []
  me_TwoMarksddread_rows : Meth K C_TwoMarks "_read_rows" a_TwoMarksddread_rows
  a_TwoMarksddgo : Addr
  d_TwoMarksddgo : FuncData
  F_TwoMarksddgo : Fun K "_go" "TwoMarks._go" s_TwoMarksddgo a_TwoMarksddgo d_TwoMarksddgo
  b_TwoMarksddgo : Binds K d_TwoMarksddgo ["self", "state", "side", "places"] []
  me_TwoMarksddgo : Meth K C_TwoMarks "_go" a_TwoMarksddgo
  a_TwoMarksddwrite_row : Addr
  d_TwoMarksddwrite_row : FuncData
  F_TwoMarksddwrite_row : Fun K "_write_row" "TwoMarks._write_row" s_TwoMarksddwrite_row a_TwoMarksddwrite_row d_TwoMarksddwrite_row
  b_TwoMarksddwrite_row : Binds K d_TwoMarksddwrite_row ["self", "state", "side", "size", "value"] []
  me_TwoMarksddwrite_row : Meth K C_TwoMarks "_write_row" a_TwoMarksddwrite_row
  a_TwoMarksddwrite_rows : Addr
  d_TwoMarksddwrite_rows : FuncData
  F_TwoMarksddwrite_rows : Fun K "_write_rows" "TwoMarks._write_rows" s_TwoMarksddwrite_rows a_TwoMarksddwrite_rows d_TwoMarksddwrite_rows
  b_TwoMarksddwrite_rows : Binds K d_TwoMarksddwrite_rows ["self"] []
  me_TwoMarksddwrite_rows : Meth K C_TwoMarks "_write_rows" a_TwoMarksddwrite_rows
  a_TwoMarksddgo_row : Addr
  d_TwoMarksddgo_row : FuncData
  F_TwoMarksddgo_row : Fun K "_go_row" "TwoMarks._go_row" s_TwoMarksddgo_row a_TwoMarksddgo_row d_TwoMarksddgo_row
  b_TwoMarksddgo_row : Binds K d_TwoMarksddgo_row ["self", "state", "side", "places", "bit"] []
  me_TwoMarksddgo_row : Meth K C_TwoMarks "_go_row" a_TwoMarksddgo_row
  a_TwoMarksddgo_rows : Addr
  d_TwoMarksddgo_rows : FuncData
  F_TwoMarksddgo_rows : Fun K "_go_rows" "TwoMarks._go_rows" s_TwoMarksddgo_rows a_TwoMarksddgo_rows d_TwoMarksddgo_rows
  b_TwoMarksddgo_rows : Binds K d_TwoMarksddgo_rows ["self"] []
  me_TwoMarksddgo_rows : Meth K C_TwoMarks "_go_rows" a_TwoMarksddgo_rows
  a_TwoMarksdd_initdd : Addr
  d_TwoMarksdd_initdd : FuncData
  F_TwoMarksdd_initdd : Fun K "__init__" "TwoMarks.__init__" s_TwoMarksdd_initdd a_TwoMarksdd_initdd d_TwoMarksdd_initdd
  b_TwoMarksdd_initdd : Binds K d_TwoMarksdd_initdd ["self", "machine"] []
  mk_TwoMarks : Mk K C_TwoMarks a_TwoMarksdd_initdd
  a_law_refused : Addr
  d_law_refused : FuncData
  F_law_refused : Fun K "_law_refused" "_law_refused" s_law_refused a_law_refused d_law_refused
  b_law_refused : Binds K d_law_refused ["machine"] []
  m_law_refused : mg "_law_refused" = some (.ref a_law_refused)
  a_law_width : Addr
  d_law_width : FuncData
  F_law_width : Fun K "_law_width" "_law_width" s_law_width a_law_width d_law_width
  b_law_width : Binds K d_law_width ["marks"] []
  m_law_width : mg "_law_width" = some (.ref a_law_width)
  a_law_is_integer : Addr
  d_law_is_integer : FuncData
  F_law_is_integer : Fun K "_law_is_integer" "_law_is_integer" s_law_is_integer a_law_is_integer d_law_is_integer
  b_law_is_integer : Binds K d_law_is_integer ["actual"] []
  m_law_is_integer : mg "_law_is_integer" = some (.ref a_law_is_integer)
  a_block : Addr
  d_block : FuncData
  F_block : Fun K "block" "block" s_block a_block d_block
  b_block : Binds K d_block ["marks", "mark"] []
  m_block : mg "block" = some (.ref a_block)
  a_are_numbers : Addr
  d_are_numbers : FuncData
  F_are_numbers : Fun K "are_numbers" "are_numbers" s_are_numbers a_are_numbers d_are_numbers
  b_are_numbers : Binds K d_are_numbers ["value", "low", "high"] []
  m_are_numbers : mg "are_numbers" = some (.ref a_are_numbers)
  a_mark_of : Addr
  d_mark_of : FuncData
  F_mark_of : Fun K "mark_of" "mark_of" s_mark_of a_mark_of d_mark_of
  b_mark_of : Binds K d_mark_of ["marks", "bits"] []
  m_mark_of : mg "mark_of" = some (.ref a_mark_of)
  a_law_block : Addr
  d_law_block : FuncData
  F_law_block : Fun K "_law_block" "_law_block" s_law_block a_law_block d_law_block
  b_law_block : Binds K d_law_block ["marks", "mark"] []
  m_law_block : mg "_law_block" = some (.ref a_law_block)
  a_law_power : Addr
  d_law_power : FuncData
  F_law_power : Fun K "_law_power" "_law_power" s_law_power a_law_power d_law_power
  b_law_power : Binds K d_law_power ["count"] []
  m_law_power : mg "_law_power" = some (.ref a_law_power)
  a_law_prefixes : Addr
  d_law_prefixes : FuncData
  F_law_prefixes : Fun K "_law_prefixes" "_law_prefixes" s_law_prefixes a_law_prefixes d_law_prefixes
  b_law_prefixes : Binds K d_law_prefixes ["count"] []
  m_law_prefixes : mg "_law_prefixes" = some (.ref a_law_prefixes)
  a_law_value : Addr
  d_law_value : FuncData
  F_law_value : Fun K "_law_value" "_law_value" s_law_value a_law_value d_law_value
  b_law_value : Binds K d_law_value ["bits"] []
  m_law_value : mg "_law_value" = some (.ref a_law_value)
  a_Tape_table : Addr
  d_Tape_table : FuncData
  F_Tape_table : Fun K "table" "Tape.table" s_Tape_table a_Tape_table d_Tape_table
  b_Tape_table : Binds K d_Tape_table ["self"] []
  me_Tape_table : Meth K C_Tape "table" a_Tape_table
  a_law_read : Addr
  d_law_read : FuncData
  F_law_read : Fun K "_law_read" "_law_read" s_law_read a_law_read d_law_read
  b_law_read : Binds K d_law_read ["machine", "state", "bits"] []
  m_law_read : mg "_law_read" = some (.ref a_law_read)
  a_law_write : Addr
  d_law_write : FuncData
  F_law_write : Fun K "_law_write" "_law_write" s_law_write a_law_write d_law_write
  b_law_write : Binds K d_law_write ["machine", "state", "move", "bits"] []
  m_law_write : mg "_law_write" = some (.ref a_law_write)
  a_law_read_row : Addr
  d_law_read_row : FuncData
  F_law_read_row : Fun K "_law_read_row" "_law_read_row" s_law_read_row a_law_read_row d_law_read_row
  b_law_read_row : Binds K d_law_read_row ["machine", "state", "bits", "bit"] []
  m_law_read_row : mg "_law_read_row" = some (.ref a_law_read_row)
  a_law_go : Addr
  d_law_go : FuncData
  F_law_go : Fun K "_law_go" "_law_go" s_law_go a_law_go d_law_go
  b_law_go : Binds K d_law_go ["machine", "state", "move", "places"] []
  m_law_go : mg "_law_go" = some (.ref a_law_go)
  a_law_rows : Addr
  d_law_rows : FuncData
  F_law_rows : Fun K "_law_rows" "_law_rows" s_law_rows a_law_rows d_law_rows
  b_law_rows : Binds K d_law_rows ["machine"] []
  m_law_rows : mg "_law_rows" = some (.ref a_law_rows)
  a_law : Addr
  d_law : FuncData
  F_law : Fun K "law" "law" s_law a_law d_law
  b_law : Binds K d_law ["script"] []
  m_law : mg "law" = some (.ref a_law)
  k_FEWEST_MARKS : ∃ t, mg "FEWEST_MARKS" = some (.int 2 t)
  k_MOST_MARKS : ∃ t, mg "MOST_MARKS" = some (.int 16 t)
  k_MOST_STATES : ∃ t, mg "MOST_STATES" = some (.int 4000 t)
  X_BadMachine : Addr
  xg_BadMachine : mg "BadMachine" = some (.ref X_BadMachine)
  xq_BadMachine : PySem.W.excIn K X_BadMachine [.type "ValueError", .type "Exception", .type "BaseException", .type "object"] "ValueError.__new__" = true
  xk_BadMachine : PySem.W.keepIn K (.ref X_BadMachine) = true
  xb_BadMachine : PySem.W.subIn K (.ref X_BadMachine) (.type "BaseException") = some true
  xt_BadMachine : PySem.W.typeIn K (.ref X_BadMachine) = some (.type "type")
  X_BadMark : Addr
  xg_BadMark : mg "BadMark" = some (.ref X_BadMark)
  xq_BadMark : PySem.W.excIn K X_BadMark [.type "ValueError", .type "Exception", .type "BaseException", .type "object"] "ValueError.__new__" = true
  xk_BadMark : PySem.W.keepIn K (.ref X_BadMark) = true
  xb_BadMark : PySem.W.subIn K (.ref X_BadMark) (.type "BaseException") = some true
  xt_BadMark : PySem.W.typeIn K (.ref X_BadMark) = some (.type "type")
  X_StairError : Addr
  xg_StairError : mg "StairError" = some (.ref X_StairError)
  xq_StairError : PySem.W.excIn K X_StairError [.type "ValueError", .type "Exception", .type "BaseException", .type "object"] "ValueError.__new__" = true
  xk_StairError : PySem.W.keepIn K (.ref X_StairError) = true
  xb_StairError : PySem.W.subIn K (.ref X_StairError) (.type "BaseException") = some true
  xt_StairError : PySem.W.typeIn K (.ref X_StairError) = some (.type "type")
  xe_BadMachine : ExcC K X_BadMachine
  xm_BadMachine_StairError : PySem.W.exmOne K (.ref X_BadMachine) (.ref X_StairError) = some true
  xi_BadMachine_BadMachine : PySem.W.kitOne K (.ref X_BadMachine) (.ref X_BadMachine) = some true
  xi_BadMachine_BadMark : PySem.W.kitOne K (.ref X_BadMachine) (.ref X_BadMark) = some false
  xi_BadMachine_ValueError : PySem.W.kitOne K (.ref X_BadMachine) (.type "ValueError") = some true
  n_ValueError : mg "ValueError" = none
  n_all : mg "all" = none
  n_bool : mg "bool" = none
  n_int : mg "int" = none
  n_isinstance : mg "isinstance" = none
  n_len : mg "len" = none
  n_list : mg "list" = none
  n_range : mg "range" = none
  n_sorted : mg "sorted" = none
  n_tuple : mg "tuple" = none
section
variable {P : Program} {w : World} {K : PySem.W.Frag} {mg : Str → Option Value} {base : Heap}
abbrev N_law_cell : List Str := ["script", "k"]
theorem sc_law_cell : FnScope ["script", "k"] ["script", "k"] (defScope s_law_cell) := ⟨rfl, rfl, rfl, by decide +kernel, rfl, by decide +kernel, by decide +kernel⟩
def W_law_cell (T : Tx K mg) : WF := wDef 2 2 ((wSeq (wIfS (wB (wOp2 gLt (wVar 1) (wCB gLen (wCons (wVar 0) wNil)))) (wRet (wOp2 gIx (wVar 0) (wVar 1))) wNext)
    (wRet (wC (.int 0)))))
theorem ok_law_cell (T : Tx K mg) : FnD P w K mg base 1 T.a_law_cell T.d_law_cell ["script", "k"] (W_law_cell T) := fnD_of T.F_law_cell sc_law_cell (fun cdv A outer s H E hr => (dss_cons (ds_if (dt_cmp o_lt (dv 1) (de_callB c_len (by rfl) T.n_len PySem.boot_len (da_cons (dv 0) da_nil))) (dss_one (ds_ret (de_ix o_ix (dv 0) (dv 1)))) dss_nil)
    (dss_one (ds_ret de_int))))
abbrev N_law_mixed : List Str := ["cell", "k", "first", "second"]
theorem sc_law_mixed : FnScope ["cell", "k", "first", "second"] ["cell", "k"] (defScope s_law_mixed) := ⟨rfl, rfl, rfl, by decide +kernel, rfl, by decide +kernel, by decide +kernel⟩
def W_law_mixed (T : Tx K mg) : WF := wDef 2 4 ((wSeq (wSet 2 (wOp2 gMod (wCB gIntC (wCons (wOp2 gAdd (wOp2 gAdd (wOp2 gTimes (wCB gIntC (wCons (wVar 0) wNil)) (wC (.int 48271))) (wOp2 gTimes (wVar 1) (wC (.int 69621)))) (wC (.int 11))) wNil)) (wC (.int 2147483647))))
    (wSeq (wSet 3 (wOp2 gMod (wCB gIntC (wCons (wOp2 gAdd (wOp2 gAdd (wOp2 gTimes (wVar 2) (wC (.int 16807))) (wOp2 gTimes (wOp2 gAdd (wVar 1) (wC (.int 3))) (wC (.int 40692)))) (wC (.int 5))) wNil)) (wC (.int 2147483563))))
    (wRet (wOp2 gFdiv (wVar 3) (wC (.int 5)))))))
theorem ok_law_mixed (T : Tx K mg) : FnD P w K mg base 1 T.a_law_mixed T.d_law_mixed ["cell", "k"] (W_law_mixed T) := fnD_of T.F_law_mixed sc_law_mixed (fun cdv A outer s H E hr => (dss_cons (ds_set (i := 2) sc_law_mixed.nd (de_bin o_mod (de_callTy c_int (by rfl) T.n_int (by decide +kernel) (da_cons (de_bin o_add (de_bin o_add (de_bin o_times (de_callTy c_int (by rfl) T.n_int (by decide +kernel) (da_cons (dv 0) da_nil)) de_int) (de_bin o_times (dv 1) de_int)) de_int) da_nil)) de_int))
    (dss_cons (ds_set (i := 3) sc_law_mixed.nd (de_bin o_mod (de_callTy c_int (by rfl) T.n_int (by decide +kernel) (da_cons (de_bin o_add (de_bin o_add (de_bin o_times (dv 2) de_int) (de_bin o_times (de_bin o_add (dv 1) de_int) de_int)) de_int) da_nil)) de_int))
    (dss_one (ds_ret (de_bin o_div (dv 3) de_int))))))
abbrev N_law_digits : List Str := ["cell", "count", "many", "digits", "k"]
theorem sc_law_digits : FnScope ["cell", "count", "many", "digits", "k"] ["cell", "count", "many"] (defScope s_law_digits) := ⟨rfl, rfl, rfl, by decide +kernel, rfl, by decide +kernel, by decide +kernel⟩
def W_law_digits (T : Tx K mg) : WF := wDef 3 5 ((wSeq (wSet 3 (wLst wNil))
    (wSeq (wIfS (wB (wOp2 gLt (wVar 0) (wOp2 gPow (wC (.int 10)) (wC (.int 18))))) (wSeq (wFor (wRng1 (wCons (wVar 1) wNil)) (gN 4) (wExpr (wAppend (wVar 3) (wCons (wOp2 gMod (wCB gIntC (wCons (wCall (W_law_mixed T) (wCons (wVar 0) (wCons (wVar 4) wNil))) wNil)) (wVar 2)) wNil))))
    (wRet (wVar 3))) wNext)
    (wSeq (wFor (wRng1 (wCons (wVar 1) wNil)) (gN 4) (wSeq (wExpr (wAppend (wVar 3) (wCons (wOp2 gMod (wCB gIntC (wCons (wVar 0) wNil)) (wVar 2)) wNil)))
    (wSet 0 (wOp2 gFdiv (wVar 0) (wVar 2)))))
    (wRet (wVar 3))))))
theorem ok_law_digits (T : Tx K mg) : FnD P w K mg base 2 T.a_law_digits T.d_law_digits ["cell", "count", "many"] (W_law_digits T) := fnD_of T.F_law_digits sc_law_digits (fun cdv A outer s H E hr => (dss_cons (ds_set (i := 3) sc_law_digits.nd (de_lst da_nil))
    (dss_cons (ds_if (dt_cmp o_lt (dv 0) (de_bin o_pow de_int de_int)) (dss_cons (ds_for (di_rng1 (by rfl) T.n_range (da_cons (dv 1) da_nil)) (dg_name (i := 4) sc_law_digits.nd) (dss_one (ds_expr (de_append (dv 3) (da_cons (de_bin o_mod (de_callTy c_int (by rfl) T.n_int (by decide +kernel) (da_cons (de_call (ok_law_mixed T) wDef_ar (hr.mono (by decide)) rfl T.m_law_mixed T.F_law_mixed.kp T.b_law_mixed (da_cons (dv 0) (da_cons (dv 4) da_nil))) da_nil)) (dv 2)) da_nil)))))
    (dss_one (ds_ret (dv 3)))) dss_nil)
    (dss_cons (ds_for (di_rng1 (by rfl) T.n_range (da_cons (dv 1) da_nil)) (dg_name (i := 4) sc_law_digits.nd) (dss_cons (ds_expr (de_append (dv 3) (da_cons (de_bin o_mod (de_callTy c_int (by rfl) T.n_int (by decide +kernel) (da_cons (dv 0) da_nil)) (dv 2)) da_nil)))
    (dss_one (ds_set (i := 0) sc_law_digits.nd (de_bin o_div (dv 0) (dv 2))))))
    (dss_one (ds_ret (dv 3)))))))
abbrev N_is_whole : List Str := ["value"]
theorem sc_is_whole : FnScope ["value"] ["value"] (defScope s_is_whole) := ⟨rfl, rfl, rfl, by decide +kernel, rfl, by decide +kernel, by decide +kernel⟩
def W_is_whole (T : Tx K mg) : WF := wDef 1 1 ((wRet (wAndV (wIsi (wVar 0) "int") (wNotV (wIsi (wVar 0) "bool")))))
theorem ok_is_whole (T : Tx K mg) : FnD P w K mg base 1 T.a_is_whole T.d_is_whole ["value"] (W_is_whole T) := fnD_of T.F_is_whole sc_is_whole (fun cdv A outer s H E hr => (dss_one (ds_ret (de_and (de_isi (by rfl) T.n_isinstance (by rfl) T.n_int (by decide +kernel) (dv 0)) (de_one (de_not (de_isi (by rfl) T.n_isinstance (by rfl) T.n_bool (by decide +kernel) (dv 0))))))))
abbrev N_is_number : List Str := ["value", "low", "high"]
theorem sc_is_number : FnScope ["value", "low", "high"] ["value", "low", "high"] (defScope s_is_number) := ⟨rfl, rfl, rfl, by decide +kernel, rfl, by decide +kernel, by decide +kernel⟩
def W_is_number (T : Tx K mg) : WF := wDef 3 3 ((wRet (wAndV (wCall (W_is_whole T) (wCons (wVar 0) wNil)) (wChain gLe gLe (wVar 1) (wVar 0) (wVar 2)))))
theorem ok_is_number (T : Tx K mg) : FnD P w K mg base 2 T.a_is_number T.d_is_number ["value", "low", "high"] (W_is_number T) := fnD_of T.F_is_number sc_is_number (fun cdv A outer s H E hr => (dss_one (ds_ret (de_and (de_call (ok_is_whole T) wDef_ar (hr.mono (by decide)) rfl T.m_is_whole T.F_is_whole.kp T.b_is_whole (da_cons (dv 0) da_nil)) (de_one (de_chain o_le o_le (dv 1) (dv 0) (dv 2)))))))
abbrev N_is_row : List Str := ["value", "marks", "states", "mark", "move", "state"]
theorem sc_is_row : FnScope ["value", "marks", "states", "mark", "move", "state"] ["value", "marks", "states"] (defScope s_is_row) := ⟨rfl, rfl, rfl, by decide +kernel, rfl, by decide +kernel, by decide +kernel⟩
def W_is_row (T : Tx K mg) : WF := wDef 3 6 ((wSeq (wIfS (wOr (wNot (wB (wIsi (wVar 0) "tuple"))) (wB (wOp2 (gEq true) (wCB gLen (wCons (wVar 0) wNil)) (wC (.int 3))))) (wRet (wC (.bl false))) wNext)
    (wSeq (wAsg (wVar 0) (gT 3 (gCn (gN 3) (gCn (gN 4) (gCn (gN 5) gNl)))))
    (wSeq (wIfS (wOr (wNot (wTru (wCall (W_is_number T) (wCons (wVar 4) (wCons (wNeg (wC (.int 1))) (wCons (wC (.int 1)) wNil)))))) (wB (wOp2 (gEq false) (wVar 4) (wC (.int 0))))) (wRet (wC (.bl false))) wNext)
    (wRet (wAndV (wCall (W_is_number T) (wCons (wVar 3) (wCons (wC (.int 0)) (wCons (wOp2 gMinus (wVar 1) (wC (.int 1))) wNil)))) (wCall (W_is_number T) (wCons (wVar 5) (wCons (wC (.int 0)) (wCons (wOp2 gMinus (wVar 2) (wC (.int 1))) wNil))))))))))
theorem ok_is_row (T : Tx K mg) : FnD P w K mg base 3 T.a_is_row T.d_is_row ["value", "marks", "states"] (W_is_row T) := fnD_of T.F_is_row sc_is_row (fun cdv A outer s H E hr => (dss_cons (ds_if (dt_w (dw_or (dt_not (dt_val (de_isi (by rfl) T.n_isinstance (by rfl) T.n_tuple (by decide +kernel) (dv 0)))) (dw_or1 (dt_cmp (o_ne hr.units) (de_callB c_len (by rfl) T.n_len PySem.boot_len (da_cons (dv 0) da_nil)) de_int)))) (dss_one (ds_ret de_bl)) dss_nil)
    (dss_cons (ds_asg (dv 0) (dg_tup (dgs_cons (dg_name (i := 3) sc_is_row.nd) (dgs_cons (dg_name (i := 4) sc_is_row.nd) (dgs_cons (dg_name (i := 5) sc_is_row.nd) dgs_nil)))))
    (dss_cons (ds_if (dt_w (dw_or (dt_not (dt_truth (de_call (ok_is_number T) wDef_ar (hr.mono (by decide)) rfl T.m_is_number T.F_is_number.kp T.b_is_number (da_cons (dv 4) (da_cons (de_neg de_int) (da_cons de_int da_nil)))))) (dw_or1 (dt_cmp (o_eq hr.units) (dv 4) de_int)))) (dss_one (ds_ret de_bl)) dss_nil)
    (dss_one (ds_ret (de_and (de_call (ok_is_number T) wDef_ar (hr.mono (by decide)) rfl T.m_is_number T.F_is_number.kp T.b_is_number (da_cons (dv 3) (da_cons de_int (da_cons (de_bin o_sub (dv 1) de_int) da_nil)))) (de_one (de_call (ok_is_number T) wDef_ar (hr.mono (by decide)) rfl T.m_is_number T.F_is_number.kp T.b_is_number (da_cons (dv 5) (da_cons de_int (da_cons (de_bin o_sub (dv 2) de_int) da_nil))))))))))))
abbrev N_Tapedd_initdd : List Str := ["self", "marks", "states", "rows", "row"]
theorem sc_Tapedd_initdd : FnScope ["self", "marks", "states", "rows", "row"] ["self", "marks", "states", "rows"] (defScope s_Tapedd_initdd) := ⟨rfl, rfl, rfl, by decide +kernel, rfl, by decide +kernel, by decide +kernel⟩
def W_Tapedd_initdd (T : Tx K mg) : WF := wDef 4 5 ((wSeq (wIfS (wNot (wTru (wCall (W_is_number T) (wCons (wVar 1) (wCons (wC (.int 2)) (wCons (wC (.int 16)) wNil)))))) (wRaise T.X_BadMachine) wNext)
    (wSeq (wIfS (wNot (wTru (wCall (W_is_number T) (wCons (wVar 2) (wCons (wC (.int 1)) (wCons (wC (.int 4000)) wNil)))))) (wRaise T.X_BadMachine) wNext)
    (wSeq (wIfS (wOr (wNot (wB (wIsi (wVar 3) "list"))) (wB (wOp2 (gEq true) (wCB gLen (wCons (wVar 3) wNil)) (wOp2 gTimes (wVar 1) (wVar 2))))) (wRaise T.X_BadMachine) wNext)
    (wSeq (wFor (wItems (wVar 3)) (gN 4) (wIfS (wAnd (wB (wOp2 (gIs true) (wVar 4) (wC .non))) (wNot (wTru (wCall (W_is_row T) (wCons (wVar 4) (wCons (wVar 1) (wCons (wVar 2) wNil))))))) (wRaise T.X_BadMachine) wNext))
    (wSeq (wFldS [T.C_Tape] (wVar 0) (wVar 1) "marks")
    (wSeq (wFldS [T.C_Tape] (wVar 0) (wVar 2) "states")
    (wFldS [T.C_Tape] (wVar 0) (wCB gListC (wCons (wVar 3) wNil)) "_rows"))))))))
theorem ok_Tapedd_initdd (T : Tx K mg) : FnD P w K mg base 4 T.a_Tapedd_initdd T.d_Tapedd_initdd ["self", "marks", "states", "rows"] (W_Tapedd_initdd T) := fnD_of T.F_Tapedd_initdd sc_Tapedd_initdd (fun cdv A outer s H E hr => (dss_cons (ds_if (dt_not (dt_truth (de_call (ok_is_number T) wDef_ar (hr.mono (by decide)) rfl T.m_is_number T.F_is_number.kp T.b_is_number (da_cons (dv 1) (da_cons (de_gint T.k_FEWEST_MARKS) (da_cons (de_gint T.k_MOST_MARKS) da_nil)))))) (dss_one (ds_raise PySem.F.excBase_ValueError T.xq_BadMachine T.xg_BadMachine T.xk_BadMachine (raises_own T.xb_BadMachine T.xt_BadMachine) rfl)) dss_nil)
    (dss_cons (ds_if (dt_not (dt_truth (de_call (ok_is_number T) wDef_ar (hr.mono (by decide)) rfl T.m_is_number T.F_is_number.kp T.b_is_number (da_cons (dv 2) (da_cons de_int (da_cons (de_gint T.k_MOST_STATES) da_nil)))))) (dss_one (ds_raise PySem.F.excBase_ValueError T.xq_BadMachine T.xg_BadMachine T.xk_BadMachine (raises_own T.xb_BadMachine T.xt_BadMachine) rfl)) dss_nil)
    (dss_cons (ds_if (dt_w (dw_or (dt_not (dt_val (de_isi (by rfl) T.n_isinstance (by rfl) T.n_list (by decide +kernel) (dv 3)))) (dw_or1 (dt_cmp (o_ne hr.units) (de_callB c_len (by rfl) T.n_len PySem.boot_len (da_cons (dv 3) da_nil)) (de_bin o_times (dv 1) (dv 2)))))) (dss_one (ds_raise PySem.F.excBase_ValueError T.xq_BadMachine T.xg_BadMachine T.xk_BadMachine (raises_own T.xb_BadMachine T.xt_BadMachine) rfl)) dss_nil)
    (dss_cons (ds_for (di_items (dv 3)) (dg_name (i := 4) sc_Tapedd_initdd.nd) (dss_one (ds_if (dt_w (dw_and (dt_cmp o_isnot (dv 4) de_non) (dw_and1 (dt_not (dt_truth (de_call (ok_is_row T) wDef_ar (hr.mono (by decide)) rfl T.m_is_row T.F_is_row.kp T.b_is_row (da_cons (dv 4) (da_cons (dv 1) (da_cons (dv 2) da_nil))))))))) (dss_one (ds_raise PySem.F.excBase_ValueError T.xq_BadMachine T.xg_BadMachine T.xk_BadMachine (raises_own T.xb_BadMachine T.xt_BadMachine) rfl)) dss_nil)))
    (dss_cons (ds_fld (dv 0) (dv 1) (ClsD.one T.cl_Tape T.na_Tape_marks))
    (dss_cons (ds_fld (dv 0) (dv 2) (ClsD.one T.cl_Tape T.na_Tape_states))
    (dss_one (ds_fld (dv 0) (de_callTy c_list (by rfl) T.n_list (by decide +kernel) (da_cons (dv 3) da_nil)) (ClsD.one T.cl_Tape T.na_Tape__rows))))))))))
abbrev N_law_tape : List Str := ["numbers", "most_marks", "most_states", "marks", "states", "rows", "k", "digit", "move"]
theorem sc_law_tape : FnScope ["numbers", "most_marks", "most_states", "marks", "states", "rows", "k", "digit", "move"] ["numbers", "most_marks", "most_states"] (defScope s_law_tape) := ⟨rfl, rfl, rfl, by decide +kernel, rfl, by decide +kernel, by decide +kernel⟩
def W_law_tape (T : Tx K mg) : WF := wDef 3 9 ((wSeq (wSet 3 (wOp2 gAdd (wC (.int 2)) (wOp2 gMod (wOp2 gIx (wVar 0) (wC (.int 0))) (wOp2 gMinus (wVar 1) (wC (.int 1))))))
    (wSeq (wSet 4 (wOp2 gAdd (wC (.int 1)) (wOp2 gMod (wOp2 gIx (wVar 0) (wC (.int 1))) (wVar 2))))
    (wSeq (wSet 5 (wLst wNil))
    (wSeq (wFor (wRng1 (wCons (wOp2 gTimes (wVar 3) (wVar 4)) wNil)) (gN 6) (wSeq (wSet 7 (wOp2 gAdd (wOp2 gIx (wVar 0) (wOp2 gAdd (wC (.int 2)) (wOp2 gTimes (wC (.int 3)) (wOp2 gMod (wCB gIntC (wCons (wVar 6) wNil)) (wC (.int 12)))))) (wOp2 gTimes (wC (.int 7)) (wOp2 gFdiv (wVar 6) (wC (.int 12))))))
    (wIfS (wB (wOp2 (gEq false) (wOp2 gMod (wVar 7) (wC (.int 5))) (wC (.int 0)))) (wExpr (wAppend (wVar 5) (wCons (wC .non) wNil))) (wSeq (wSet 8 (wOp2 gMinus (wOp2 gTimes (wC (.int 2)) (wOp2 gMod (wOp2 gFdiv (wOp2 gIx (wVar 0) (wOp2 gAdd (wC (.int 3)) (wOp2 gTimes (wC (.int 3)) (wOp2 gMod (wCB gIntC (wCons (wVar 6) wNil)) (wC (.int 12)))))) (wC (.int 3))) (wC (.int 2)))) (wC (.int 1))))
    (wExpr (wAppend (wVar 5) (wCons (wTup (wCons (wOp2 gMod (wOp2 gFdiv (wVar 7) (wC (.int 5))) (wVar 3)) (wCons (wVar 8) (wCons (wOp2 gMod (wCB gIntC (wCons (wOp2 gAdd (wOp2 gIx (wVar 0) (wOp2 gAdd (wC (.int 4)) (wOp2 gTimes (wC (.int 3)) (wOp2 gMod (wCB gIntC (wCons (wVar 6) wNil)) (wC (.int 12)))))) (wOp2 gFdiv (wVar 6) (wC (.int 12)))) wNil)) (wVar 4)) wNil)))) wNil)))))))
    (wRet (wMake T.C_Tape (W_Tapedd_initdd T) (wCons (wVar 3) (wCons (wVar 4) (wCons (wVar 5) wNil))))))))))
theorem ok_law_tape (T : Tx K mg) : FnD P w K mg base 6 T.a_law_tape T.d_law_tape ["numbers", "most_marks", "most_states"] (W_law_tape T) := fnD_of T.F_law_tape sc_law_tape (fun cdv A outer s H E hr => (dss_cons (ds_set (i := 3) sc_law_tape.nd (de_bin o_add de_int (de_bin o_mod (de_ix o_ix (dv 0) de_int) (de_bin o_sub (dv 1) de_int))))
    (dss_cons (ds_set (i := 4) sc_law_tape.nd (de_bin o_add de_int (de_bin o_mod (de_ix o_ix (dv 0) de_int) (dv 2))))
    (dss_cons (ds_set (i := 5) sc_law_tape.nd (de_lst da_nil))
    (dss_cons (ds_for (di_rng1 (by rfl) T.n_range (da_cons (de_bin o_times (dv 3) (dv 4)) da_nil)) (dg_name (i := 6) sc_law_tape.nd) (dss_cons (ds_set (i := 7) sc_law_tape.nd (de_bin o_add (de_ix o_ix (dv 0) (de_bin o_add de_int (de_bin o_times de_int (de_bin o_mod (de_callTy c_int (by rfl) T.n_int (by decide +kernel) (da_cons (dv 6) da_nil)) de_int)))) (de_bin o_times de_int (de_bin o_div (dv 6) de_int))))
    (dss_one (ds_if (dt_cmp (o_eq hr.units) (de_bin o_mod (dv 7) de_int) de_int) (dss_one (ds_expr (de_append (dv 5) (da_cons de_non da_nil)))) (dss_cons (ds_set (i := 8) sc_law_tape.nd (de_bin o_sub (de_bin o_times de_int (de_bin o_mod (de_bin o_div (de_ix o_ix (dv 0) (de_bin o_add de_int (de_bin o_times de_int (de_bin o_mod (de_callTy c_int (by rfl) T.n_int (by decide +kernel) (da_cons (dv 6) da_nil)) de_int)))) de_int) de_int)) de_int))
    (dss_one (ds_expr (de_append (dv 5) (da_cons (de_tup (da_cons (de_bin o_mod (de_bin o_div (dv 7) de_int) (dv 3)) (da_cons (dv 8) (da_cons (de_bin o_mod (de_callTy c_int (by rfl) T.n_int (by decide +kernel) (da_cons (de_bin o_add (de_ix o_ix (dv 0) (de_bin o_add de_int (de_bin o_times de_int (de_bin o_mod (de_callTy c_int (by rfl) T.n_int (by decide +kernel) (da_cons (dv 6) da_nil)) de_int)))) (de_bin o_div (dv 6) de_int)) da_nil)) (dv 4)) da_nil)))) da_nil)))))))))
    (dss_one (ds_ret (de_make T.mk_Tape (ok_Tapedd_initdd T) wDef_ar (hr.mono (by decide)) rfl T.mc_Tape T.b_Tapedd_initdd (da_cons (dv 3) (da_cons (dv 4) (da_cons (dv 5) da_nil)))))))))))
abbrev N_width : List Str := ["marks", "bits"]
theorem sc_width : FnScope ["marks", "bits"] ["marks"] (defScope s_width) := ⟨rfl, rfl, rfl, by decide +kernel, rfl, by decide +kernel, by decide +kernel⟩
def W_width (T : Tx K mg) : WF := wDef 1 2 ((wSeq (wSet 1 (wC (.int 1)))
    (wSeq (wWhile (wB (wOp2 gLt (wOp2 gShl (wC (.int 1)) (wVar 1)) (wVar 0))) (wAugI 1 (fun a b => a + b) (wC (.int 1))))
    (wRet (wVar 1)))))
theorem ok_width (T : Tx K mg) : FnD P w K mg base 1 T.a_width T.d_width ["marks"] (W_width T) := fnD_of T.F_width sc_width (fun cdv A outer s H E hr => (dss_cons (ds_set (i := 1) sc_width.nd de_int)
    (dss_cons (ds_while (dt_cmp o_lt (de_bin o_shl de_int (dv 1)) (dv 0)) (dss_one (ds_addI (i := 1) sc_width.nd de_int)))
    (dss_one (ds_ret (dv 1))))))
abbrev N_TwoMarksddread : List Str := ["self", "state", "size", "value"]
theorem sc_TwoMarksddread : FnScope ["self", "state", "size", "value"] ["self", "state", "size", "value"] (defScope s_TwoMarksddread) := ⟨rfl, rfl, rfl, by decide +kernel, rfl, by decide +kernel, by decide +kernel⟩
def W_TwoMarksddread (T : Tx K mg) : WF := wDef 4 4 ((wRet (wOp2 gAdd (wOp2 gAdd (wOp2 gTimes (wFld [T.C_Tape] (wFld [T.C_TwoMarks] (wVar 0) "upper") "states") (wOp2 gMinus (wOp2 gShl (wC (.int 1)) (wVar 2)) (wC (.int 1)))) (wOp2 gShl (wVar 1) (wVar 2))) (wVar 3))))
theorem ok_TwoMarksddread (T : Tx K mg) : FnD P w K mg base 1 T.a_TwoMarksddread T.d_TwoMarksddread ["self", "state", "size", "value"] (W_TwoMarksddread T) := fnD_of T.F_TwoMarksddread sc_TwoMarksddread (fun cdv A outer s H E hr => (dss_one (ds_ret (de_bin o_add (de_bin o_add (de_bin o_times (de_fld (de_fld (dv 0) (ClsD.one T.cl_TwoMarks T.na_TwoMarks_upper)) (ClsD.one T.cl_Tape T.na_Tape_states)) (de_bin o_sub (de_bin o_shl de_int (dv 2)) de_int)) (de_bin o_shl (dv 1) (dv 2))) (dv 3)))))
abbrev N_Tape_row : List Str := ["self", "state", "mark"]
theorem sc_Tape_row : FnScope ["self", "state", "mark"] ["self", "state", "mark"] (defScope s_Tape_row) := ⟨rfl, rfl, rfl, by decide +kernel, rfl, by decide +kernel, by decide +kernel⟩
def W_Tape_row (T : Tx K mg) : WF := wDef 3 3 ((wSeq (wIfS (wNot (wTru (wCall (W_is_number T) (wCons (wVar 1) (wCons (wC (.int 0)) (wCons (wOp2 gMinus (wFld [T.C_Tape] (wVar 0) "states") (wC (.int 1))) wNil)))))) (wRaise T.X_BadMachine) wNext)
    (wSeq (wIfS (wNot (wTru (wCall (W_is_number T) (wCons (wVar 2) (wCons (wC (.int 0)) (wCons (wOp2 gMinus (wFld [T.C_Tape] (wVar 0) "marks") (wC (.int 1))) wNil)))))) (wRaise T.X_BadMachine) wNext)
    (wRet (wOp2 gIx (wFld [T.C_Tape] (wVar 0) "_rows") (wOp2 gAdd (wOp2 gTimes (wVar 1) (wFld [T.C_Tape] (wVar 0) "marks")) (wVar 2)))))))
theorem ok_Tape_row (T : Tx K mg) : FnD P w K mg base 3 T.a_Tape_row T.d_Tape_row ["self", "state", "mark"] (W_Tape_row T) := fnD_of T.F_Tape_row sc_Tape_row (fun cdv A outer s H E hr => (dss_cons (ds_if (dt_not (dt_truth (de_call (ok_is_number T) wDef_ar (hr.mono (by decide)) rfl T.m_is_number T.F_is_number.kp T.b_is_number (da_cons (dv 1) (da_cons de_int (da_cons (de_bin o_sub (de_fld (dv 0) (ClsD.one T.cl_Tape T.na_Tape_states)) de_int) da_nil)))))) (dss_one (ds_raise PySem.F.excBase_ValueError T.xq_BadMachine T.xg_BadMachine T.xk_BadMachine (raises_own T.xb_BadMachine T.xt_BadMachine) rfl)) dss_nil)
    (dss_cons (ds_if (dt_not (dt_truth (de_call (ok_is_number T) wDef_ar (hr.mono (by decide)) rfl T.m_is_number T.F_is_number.kp T.b_is_number (da_cons (dv 2) (da_cons de_int (da_cons (de_bin o_sub (de_fld (dv 0) (ClsD.one T.cl_Tape T.na_Tape_marks)) de_int) da_nil)))))) (dss_one (ds_raise PySem.F.excBase_ValueError T.xq_BadMachine T.xg_BadMachine T.xk_BadMachine (raises_own T.xb_BadMachine T.xt_BadMachine) rfl)) dss_nil)
    (dss_one (ds_ret (de_ix o_ix (de_fld (dv 0) (ClsD.one T.cl_Tape T.na_Tape__rows)) (de_bin o_add (de_bin o_times (dv 1) (de_fld (dv 0) (ClsD.one T.cl_Tape T.na_Tape_marks))) (dv 2))))))))
abbrev N_TwoMarksddwrite : List Str := ["self", "state", "side", "size", "value", "first"]
theorem sc_TwoMarksddwrite : FnScope ["self", "state", "side", "size", "value", "first"] ["self", "state", "side", "size", "value"] (defScope s_TwoMarksddwrite) := ⟨rfl, rfl, rfl, by decide +kernel, rfl, by decide +kernel, by decide +kernel⟩
def W_TwoMarksddwrite (T : Tx K mg) : WF := wDef 5 6 ((wSeq (wSet 5 (wOp2 gAdd (wMeth T.C_TwoMarks "_read" (W_TwoMarksddread T) (wVar 0) (wCons (wC (.int 0)) (wCons (wFld [T.C_TwoMarks] (wVar 0) "_width") (wCons (wC (.int 0)) wNil)))) (wOp2 gTimes (wOp2 gTimes (wC (.int 2)) (wFld [T.C_Tape] (wFld [T.C_TwoMarks] (wVar 0) "upper") "states")) (wOp2 gMinus (wOp2 gShl (wC (.int 1)) (wVar 3)) (wC (.int 2))))))
    (wRet (wOp2 gAdd (wOp2 gAdd (wVar 5) (wOp2 gShl (wOp2 gAdd (wOp2 gTimes (wC (.int 2)) (wVar 1)) (wVar 2)) (wVar 3))) (wVar 4)))))
theorem ok_TwoMarksddwrite (T : Tx K mg) : FnD P w K mg base 2 T.a_TwoMarksddwrite T.d_TwoMarksddwrite ["self", "state", "side", "size", "value"] (W_TwoMarksddwrite T) := fnD_of T.F_TwoMarksddwrite sc_TwoMarksddwrite (fun cdv A outer s H E hr => (dss_cons (ds_set (i := 5) sc_TwoMarksddwrite.nd (de_bin o_add (de_meth (dv 0) T.cl_TwoMarks T.me_TwoMarksddread (ok_TwoMarksddread T) wDef_ar (hr.mono (by decide)) T.b_TwoMarksddread (da_cons de_int (da_cons (de_fld (dv 0) (ClsD.one T.cl_TwoMarks T.na_TwoMarks__width)) (da_cons de_int da_nil)))) (de_bin o_times (de_bin o_times de_int (de_fld (de_fld (dv 0) (ClsD.one T.cl_TwoMarks T.na_TwoMarks_upper)) (ClsD.one T.cl_Tape T.na_Tape_states))) (de_bin o_sub (de_bin o_shl de_int (dv 3)) de_int))))
    (dss_one (ds_ret (de_bin o_add (de_bin o_add (dv 5) (de_bin o_shl (de_bin o_add (de_bin o_times de_int (dv 1)) (dv 2)) (dv 3))) (dv 4))))))
abbrev N_TwoMarksddread_row : List Str := ["self", "state", "size", "value", "bit", "row", "mark", "move", "target", "side"]
theorem sc_TwoMarksddread_row : FnScope ["self", "state", "size", "value", "bit", "row", "mark", "move", "target", "side"] ["self", "state", "size", "value", "bit"] (defScope s_TwoMarksddread_row) := ⟨rfl, rfl, rfl, by decide +kernel, rfl, by decide +kernel, by decide +kernel⟩
def W_TwoMarksddread_row (T : Tx K mg) : WF := wDef 5 10 ((wSeq (wSet 3 (wOp2 gAdd (wOp2 gTimes (wC (.int 2)) (wVar 3)) (wVar 4)))
    (wSeq (wIfS (wB (wOp2 gLt (wVar 2) (wOp2 gMinus (wFld [T.C_TwoMarks] (wVar 0) "_width") (wC (.int 1))))) (wRet (wTup (wCons (wVar 4) (wCons (wC (.int 1)) (wCons (wMeth T.C_TwoMarks "_read" (W_TwoMarksddread T) (wVar 0) (wCons (wVar 1) (wCons (wOp2 gAdd (wVar 2) (wC (.int 1))) (wCons (wVar 3) wNil)))) wNil))))) wNext)
    (wSeq (wSet 5 (wIf (wB (wOp2 gLt (wVar 3) (wFld [T.C_Tape] (wFld [T.C_TwoMarks] (wVar 0) "upper") "marks"))) (wMeth T.C_Tape "row" (W_Tape_row T) (wFld [T.C_TwoMarks] (wVar 0) "upper") (wCons (wVar 1) (wCons (wVar 3) wNil))) (wC .non)))
    (wSeq (wIfS (wB (wOp2 (gIs false) (wVar 5) (wC .non))) (wRet (wC .non)) wNext)
    (wSeq (wAsg (wVar 5) (gT 3 (gCn (gN 6) (gCn (gN 7) (gCn (gN 8) gNl)))))
    (wSeq (wIfS (wB (wOp2 (gEq false) (wFld [T.C_TwoMarks] (wVar 0) "_width") (wC (.int 1)))) (wRet (wTup (wCons (wVar 6) (wCons (wVar 7) (wCons (wVar 8) wNil))))) wNext)
    (wSeq (wSet 9 (wIf (wB (wOp2 (gEq false) (wVar 7) (wC (.int 1)))) (wC (.int 1)) (wC (.int 0))))
    (wRet (wTup (wCons (wOp2 gBand (wVar 6) (wC (.int 1))) (wCons (wNeg (wC (.int 1))) (wCons (wMeth T.C_TwoMarks "_write" (W_TwoMarksddwrite T) (wVar 0) (wCons (wVar 8) (wCons (wVar 9) (wCons (wOp2 gMinus (wFld [T.C_TwoMarks] (wVar 0) "_width") (wC (.int 1))) (wCons (wOp2 gShr (wVar 6) (wC (.int 1))) wNil))))) wNil)))))))))))))
theorem ok_TwoMarksddread_row (T : Tx K mg) : FnD P w K mg base 4 T.a_TwoMarksddread_row T.d_TwoMarksddread_row ["self", "state", "size", "value", "bit"] (W_TwoMarksddread_row T) := fnD_of T.F_TwoMarksddread_row sc_TwoMarksddread_row (fun cdv A outer s H E hr => (dss_cons (ds_set (i := 3) sc_TwoMarksddread_row.nd (de_bin o_add (de_bin o_times de_int (dv 3)) (dv 4)))
    (dss_cons (ds_if (dt_cmp o_lt (dv 2) (de_bin o_sub (de_fld (dv 0) (ClsD.one T.cl_TwoMarks T.na_TwoMarks__width)) de_int)) (dss_one (ds_ret (de_tup (da_cons (dv 4) (da_cons de_int (da_cons (de_meth (dv 0) T.cl_TwoMarks T.me_TwoMarksddread (ok_TwoMarksddread T) wDef_ar (hr.mono (by decide)) T.b_TwoMarksddread (da_cons (dv 1) (da_cons (de_bin o_add (dv 2) de_int) (da_cons (dv 3) da_nil)))) da_nil)))))) dss_nil)
    (dss_cons (ds_set (i := 5) sc_TwoMarksddread_row.nd (de_if (dt_cmp o_lt (dv 3) (de_fld (de_fld (dv 0) (ClsD.one T.cl_TwoMarks T.na_TwoMarks_upper)) (ClsD.one T.cl_Tape T.na_Tape_marks))) (de_meth (de_fld (dv 0) (ClsD.one T.cl_TwoMarks T.na_TwoMarks_upper)) T.cl_Tape T.me_Tape_row (ok_Tape_row T) wDef_ar (hr.mono (by decide)) T.b_Tape_row (da_cons (dv 1) (da_cons (dv 3) da_nil))) de_non))
    (dss_cons (ds_if (dt_cmp o_is (dv 5) de_non) (dss_one (ds_ret de_non)) dss_nil)
    (dss_cons (ds_asg (dv 5) (dg_tup (dgs_cons (dg_name (i := 6) sc_TwoMarksddread_row.nd) (dgs_cons (dg_name (i := 7) sc_TwoMarksddread_row.nd) (dgs_cons (dg_name (i := 8) sc_TwoMarksddread_row.nd) dgs_nil)))))
    (dss_cons (ds_if (dt_cmp (o_eq hr.units) (de_fld (dv 0) (ClsD.one T.cl_TwoMarks T.na_TwoMarks__width)) de_int) (dss_one (ds_ret (de_tup (da_cons (dv 6) (da_cons (dv 7) (da_cons (dv 8) da_nil)))))) dss_nil)
    (dss_cons (ds_set (i := 9) sc_TwoMarksddread_row.nd (de_if (dt_cmp (o_eq hr.units) (dv 7) de_int) de_int de_int))
    (dss_one (ds_ret (de_tup (da_cons (de_bin o_and (dv 6) de_int) (da_cons (de_neg de_int) (da_cons (de_meth (dv 0) T.cl_TwoMarks T.me_TwoMarksddwrite (ok_TwoMarksddwrite T) wDef_ar (hr.mono (by decide)) T.b_TwoMarksddwrite (da_cons (dv 8) (da_cons (dv 9) (da_cons (de_bin o_sub (de_fld (dv 0) (ClsD.one T.cl_TwoMarks T.na_TwoMarks__width)) de_int) (da_cons (de_bin o_shr (dv 6) de_int) da_nil))))) da_nil))))))))))))))
abbrev N_TwoMarksddread_rows : List Str := ["self", "bit", "size", "state", "value"]
theorem sc_TwoMarksddread_rows : FnScope ["self", "bit", "size", "state", "value"] ["self"] (defScope s_TwoMarksddread_rows) := ⟨rfl, rfl, rfl, by decide +kernel, rfl, by decide +kernel, by decide +kernel⟩
def W_TwoMarksddread_rows (T : Tx K mg) : WF := wDef 1 5 ((wRet (wLcN (wRng1 (wCons (wFld [T.C_TwoMarks] (wVar 0) "_width") wNil)) 2 [((wRng1 (wCons (wFld [T.C_Tape] (wFld [T.C_TwoMarks] (wVar 0) "upper") "states") wNil)), 3), ((wRng1 (wCons (wOp2 gShl (wC (.int 1)) (wVar 2)) wNil)), 4), ((wItems (wTup (wCons (wC (.int 0)) (wCons (wC (.int 1)) wNil)))), 1)] (wMeth T.C_TwoMarks "_read_row" (W_TwoMarksddread_row T) (wVar 0) (wCons (wVar 3) (wCons (wVar 2) (wCons (wVar 4) (wCons (wVar 1) wNil))))))))
theorem ok_TwoMarksddread_rows (T : Tx K mg) : FnD P w K mg base 5 T.a_TwoMarksddread_rows T.d_TwoMarksddread_rows ["self"] (W_TwoMarksddread_rows T) := fnD_of T.F_TwoMarksddread_rows sc_TwoMarksddread_rows (fun cdv A outer s H E hr => (dss_one (ds_ret (de_lcN (i := 2) sc_TwoMarksddread_rows.nd (di_rng1 (by rfl) T.n_range (da_cons (de_fld (dv 0) (ClsD.one T.cl_TwoMarks T.na_TwoMarks__width)) da_nil)) [("size", 2), ("state", 3), ("value", 4), ("bit", 1)] (blkOk_by (N := N_TwoMarksddread_rows) (sc := defScope s_TwoMarksddread_rows) (by decide +kernel)) (fun _ _ _ _ _ => pg_name (i := 2) sc_TwoMarksddread_rows.nd rfl (Or.inl rfl)) (fun _ _ _ _ _ => (DCs.cons (pg_name (i := 3) sc_TwoMarksddread_rows.nd rfl (Or.inl rfl)) (di_rng1 (by rfl) T.n_range (da_cons (de_fld (de_fld (dv 0) (ClsD.one T.cl_TwoMarks T.na_TwoMarks_upper)) (ClsD.one T.cl_Tape T.na_Tape_states)) da_nil)) (fun _ => rfl) (DCs.cons (pg_name (i := 4) sc_TwoMarksddread_rows.nd rfl (Or.inl rfl)) (di_rng1 (by rfl) T.n_range (da_cons (de_bin o_shl de_int (dv 2)) da_nil)) (fun _ => rfl) (DCs.cons (pg_name (i := 1) sc_TwoMarksddread_rows.nd rfl (Or.inl rfl)) (di_items (de_tup (da_cons de_int (da_cons de_int da_nil)))) (fun _ => rfl) DCs.nil)))) (fun _ _ _ _ _ => (de_meth (dv 0) T.cl_TwoMarks T.me_TwoMarksddread_row (ok_TwoMarksddread_row T) wDef_ar (hr.mono (by decide)) T.b_TwoMarksddread_row (da_cons (dv 3) (da_cons (dv 2) (da_cons (dv 4) (da_cons (dv 1) da_nil)))))) rfl rfl (by decide)))))
abbrev N_TwoMarksddgo : List Str := ["self", "state", "side", "places", "first"]
theorem sc_TwoMarksddgo : FnScope ["self", "state", "side", "places", "first"] ["self", "state", "side", "places"] (defScope s_TwoMarksddgo) := ⟨rfl, rfl, rfl, by decide +kernel, rfl, by decide +kernel, by decide +kernel⟩
def W_TwoMarksddgo (T : Tx K mg) : WF := wDef 4 5 ((wSeq (wSet 4 (wOp2 gAdd (wMeth T.C_TwoMarks "_write" (W_TwoMarksddwrite T) (wVar 0) (wCons (wC (.int 0)) (wCons (wC (.int 0)) (wCons (wFld [T.C_TwoMarks] (wVar 0) "_width") (wCons (wC (.int 0)) wNil))))) (wOp2 gTimes (wOp2 gTimes (wC (.int 2)) (wFld [T.C_Tape] (wFld [T.C_TwoMarks] (wVar 0) "upper") "states")) (wOp2 gMinus (wVar 3) (wC (.int 1))))))
    (wRet (wOp2 gAdd (wOp2 gAdd (wVar 4) (wOp2 gTimes (wC (.int 2)) (wVar 1))) (wVar 2)))))
theorem ok_TwoMarksddgo (T : Tx K mg) : FnD P w K mg base 3 T.a_TwoMarksddgo T.d_TwoMarksddgo ["self", "state", "side", "places"] (W_TwoMarksddgo T) := fnD_of T.F_TwoMarksddgo sc_TwoMarksddgo (fun cdv A outer s H E hr => (dss_cons (ds_set (i := 4) sc_TwoMarksddgo.nd (de_bin o_add (de_meth (dv 0) T.cl_TwoMarks T.me_TwoMarksddwrite (ok_TwoMarksddwrite T) wDef_ar (hr.mono (by decide)) T.b_TwoMarksddwrite (da_cons de_int (da_cons de_int (da_cons (de_fld (dv 0) (ClsD.one T.cl_TwoMarks T.na_TwoMarks__width)) (da_cons de_int da_nil))))) (de_bin o_times (de_bin o_times de_int (de_fld (de_fld (dv 0) (ClsD.one T.cl_TwoMarks T.na_TwoMarks_upper)) (ClsD.one T.cl_Tape T.na_Tape_states))) (de_bin o_sub (dv 3) de_int))))
    (dss_one (ds_ret (de_bin o_add (de_bin o_add (dv 4) (de_bin o_times de_int (dv 1))) (dv 2))))))
abbrev N_TwoMarksddwrite_row : List Str := ["self", "state", "side", "size", "value"]
theorem sc_TwoMarksddwrite_row : FnScope ["self", "state", "side", "size", "value"] ["self", "state", "side", "size", "value"] (defScope s_TwoMarksddwrite_row) := ⟨rfl, rfl, rfl, by decide +kernel, rfl, by decide +kernel, by decide +kernel⟩
def W_TwoMarksddwrite_row (T : Tx K mg) : WF := wDef 5 5 ((wSeq (wIfS (wB (wOp2 gGt (wVar 3) (wC (.int 1)))) (wRet (wTup (wCons (wOp2 gBand (wVar 4) (wC (.int 1))) (wCons (wNeg (wC (.int 1))) (wCons (wMeth T.C_TwoMarks "_write" (W_TwoMarksddwrite T) (wVar 0) (wCons (wVar 1) (wCons (wVar 2) (wCons (wOp2 gMinus (wVar 3) (wC (.int 1))) (wCons (wOp2 gShr (wVar 4) (wC (.int 1))) wNil))))) wNil))))) wNext)
    (wRet (wTup (wCons (wVar 4) (wCons (wOp2 gMinus (wOp2 gTimes (wC (.int 2)) (wVar 2)) (wC (.int 1))) (wCons (wMeth T.C_TwoMarks "_go" (W_TwoMarksddgo T) (wVar 0) (wCons (wVar 1) (wCons (wVar 2) (wCons (wOp2 gMinus (wFld [T.C_TwoMarks] (wVar 0) "_width") (wC (.int 1))) wNil)))) wNil)))))))
theorem ok_TwoMarksddwrite_row (T : Tx K mg) : FnD P w K mg base 4 T.a_TwoMarksddwrite_row T.d_TwoMarksddwrite_row ["self", "state", "side", "size", "value"] (W_TwoMarksddwrite_row T) := fnD_of T.F_TwoMarksddwrite_row sc_TwoMarksddwrite_row (fun cdv A outer s H E hr => (dss_cons (ds_if (dt_cmp o_gt (dv 3) de_int) (dss_one (ds_ret (de_tup (da_cons (de_bin o_and (dv 4) de_int) (da_cons (de_neg de_int) (da_cons (de_meth (dv 0) T.cl_TwoMarks T.me_TwoMarksddwrite (ok_TwoMarksddwrite T) wDef_ar (hr.mono (by decide)) T.b_TwoMarksddwrite (da_cons (dv 1) (da_cons (dv 2) (da_cons (de_bin o_sub (dv 3) de_int) (da_cons (de_bin o_shr (dv 4) de_int) da_nil))))) da_nil)))))) dss_nil)
    (dss_one (ds_ret (de_tup (da_cons (dv 4) (da_cons (de_bin o_sub (de_bin o_times de_int (dv 2)) de_int) (da_cons (de_meth (dv 0) T.cl_TwoMarks T.me_TwoMarksddgo (ok_TwoMarksddgo T) wDef_ar (hr.mono (by decide)) T.b_TwoMarksddgo (da_cons (dv 1) (da_cons (dv 2) (da_cons (de_bin o_sub (de_fld (dv 0) (ClsD.one T.cl_TwoMarks T.na_TwoMarks__width)) de_int) da_nil)))) da_nil))))))))
abbrev N_TwoMarksddwrite_rows : List Str := ["self", "_", "side", "size", "state", "value"]
theorem sc_TwoMarksddwrite_rows : FnScope ["self", "_", "side", "size", "state", "value"] ["self"] (defScope s_TwoMarksddwrite_rows) := ⟨rfl, rfl, rfl, by decide +kernel, rfl, by decide +kernel, by decide +kernel⟩
def W_TwoMarksddwrite_rows (T : Tx K mg) : WF := wDef 1 6 ((wRet (wLcN (wRng2 (wCons (wC (.int 1)) (wCons (wFld [T.C_TwoMarks] (wVar 0) "_width") wNil))) 3 [((wRng1 (wCons (wFld [T.C_Tape] (wFld [T.C_TwoMarks] (wVar 0) "upper") "states") wNil)), 4), ((wItems (wTup (wCons (wC (.int 0)) (wCons (wC (.int 1)) wNil)))), 2), ((wRng1 (wCons (wOp2 gShl (wC (.int 1)) (wVar 3)) wNil)), 5), ((wItems (wTup (wCons (wC (.int 0)) (wCons (wC (.int 1)) wNil)))), 1)] (wMeth T.C_TwoMarks "_write_row" (W_TwoMarksddwrite_row T) (wVar 0) (wCons (wVar 4) (wCons (wVar 2) (wCons (wVar 3) (wCons (wVar 5) wNil))))))))
theorem ok_TwoMarksddwrite_rows (T : Tx K mg) : FnD P w K mg base 5 T.a_TwoMarksddwrite_rows T.d_TwoMarksddwrite_rows ["self"] (W_TwoMarksddwrite_rows T) := fnD_of T.F_TwoMarksddwrite_rows sc_TwoMarksddwrite_rows (fun cdv A outer s H E hr => (dss_one (ds_ret (de_lcN (i := 3) sc_TwoMarksddwrite_rows.nd (di_rng2 (by rfl) T.n_range (da_cons de_int (da_cons (de_fld (dv 0) (ClsD.one T.cl_TwoMarks T.na_TwoMarks__width)) da_nil))) [("size", 3), ("state", 4), ("side", 2), ("value", 5), ("_", 1)] (blkOk_by (N := N_TwoMarksddwrite_rows) (sc := defScope s_TwoMarksddwrite_rows) (by decide +kernel)) (fun _ _ _ _ _ => pg_name (i := 3) sc_TwoMarksddwrite_rows.nd rfl (Or.inl rfl)) (fun _ _ _ _ _ => (DCs.cons (pg_name (i := 4) sc_TwoMarksddwrite_rows.nd rfl (Or.inl rfl)) (di_rng1 (by rfl) T.n_range (da_cons (de_fld (de_fld (dv 0) (ClsD.one T.cl_TwoMarks T.na_TwoMarks_upper)) (ClsD.one T.cl_Tape T.na_Tape_states)) da_nil)) (fun _ => rfl) (DCs.cons (pg_name (i := 2) sc_TwoMarksddwrite_rows.nd rfl (Or.inl rfl)) (di_items (de_tup (da_cons de_int (da_cons de_int da_nil)))) (fun _ => rfl) (DCs.cons (pg_name (i := 5) sc_TwoMarksddwrite_rows.nd rfl (Or.inl rfl)) (di_rng1 (by rfl) T.n_range (da_cons (de_bin o_shl de_int (dv 3)) da_nil)) (fun _ => rfl) (DCs.cons (pg_name (i := 1) sc_TwoMarksddwrite_rows.nd rfl (Or.inl rfl)) (di_items (de_tup (da_cons de_int (da_cons de_int da_nil)))) (fun _ => rfl) DCs.nil))))) (fun _ _ _ _ _ => (de_meth (dv 0) T.cl_TwoMarks T.me_TwoMarksddwrite_row (ok_TwoMarksddwrite_row T) wDef_ar (hr.mono (by decide)) T.b_TwoMarksddwrite_row (da_cons (dv 4) (da_cons (dv 2) (da_cons (dv 3) (da_cons (dv 5) da_nil)))))) rfl rfl (by decide)))))
abbrev N_TwoMarksddgo_row : List Str := ["self", "state", "side", "places", "bit"]
theorem sc_TwoMarksddgo_row : FnScope ["self", "state", "side", "places", "bit"] ["self", "state", "side", "places", "bit"] (defScope s_TwoMarksddgo_row) := ⟨rfl, rfl, rfl, by decide +kernel, rfl, by decide +kernel, by decide +kernel⟩
def W_TwoMarksddgo_row (T : Tx K mg) : WF := wDef 5 5 ((wSeq (wIfS (wB (wOp2 gGt (wVar 3) (wC (.int 1)))) (wRet (wTup (wCons (wVar 4) (wCons (wOp2 gMinus (wOp2 gTimes (wC (.int 2)) (wVar 2)) (wC (.int 1))) (wCons (wMeth T.C_TwoMarks "_go" (W_TwoMarksddgo T) (wVar 0) (wCons (wVar 1) (wCons (wVar 2) (wCons (wOp2 gMinus (wVar 3) (wC (.int 1))) wNil)))) wNil))))) wNext)
    (wRet (wTup (wCons (wVar 4) (wCons (wOp2 gMinus (wOp2 gTimes (wC (.int 2)) (wVar 2)) (wC (.int 1))) (wCons (wVar 1) wNil)))))))
theorem ok_TwoMarksddgo_row (T : Tx K mg) : FnD P w K mg base 4 T.a_TwoMarksddgo_row T.d_TwoMarksddgo_row ["self", "state", "side", "places", "bit"] (W_TwoMarksddgo_row T) := fnD_of T.F_TwoMarksddgo_row sc_TwoMarksddgo_row (fun cdv A outer s H E hr => (dss_cons (ds_if (dt_cmp o_gt (dv 3) de_int) (dss_one (ds_ret (de_tup (da_cons (dv 4) (da_cons (de_bin o_sub (de_bin o_times de_int (dv 2)) de_int) (da_cons (de_meth (dv 0) T.cl_TwoMarks T.me_TwoMarksddgo (ok_TwoMarksddgo T) wDef_ar (hr.mono (by decide)) T.b_TwoMarksddgo (da_cons (dv 1) (da_cons (dv 2) (da_cons (de_bin o_sub (dv 3) de_int) da_nil)))) da_nil)))))) dss_nil)
    (dss_one (ds_ret (de_tup (da_cons (dv 4) (da_cons (de_bin o_sub (de_bin o_times de_int (dv 2)) de_int) (da_cons (dv 1) da_nil))))))))
abbrev N_TwoMarksddgo_rows : List Str := ["self", "bit", "places", "side", "state"]
theorem sc_TwoMarksddgo_rows : FnScope ["self", "bit", "places", "side", "state"] ["self"] (defScope s_TwoMarksddgo_rows) := ⟨rfl, rfl, rfl, by decide +kernel, rfl, by decide +kernel, by decide +kernel⟩
def W_TwoMarksddgo_rows (T : Tx K mg) : WF := wDef 1 5 ((wRet (wLcN (wRng2 (wCons (wC (.int 1)) (wCons (wFld [T.C_TwoMarks] (wVar 0) "_width") wNil))) 2 [((wRng1 (wCons (wFld [T.C_Tape] (wFld [T.C_TwoMarks] (wVar 0) "upper") "states") wNil)), 4), ((wItems (wTup (wCons (wC (.int 0)) (wCons (wC (.int 1)) wNil)))), 3), ((wItems (wTup (wCons (wC (.int 0)) (wCons (wC (.int 1)) wNil)))), 1)] (wMeth T.C_TwoMarks "_go_row" (W_TwoMarksddgo_row T) (wVar 0) (wCons (wVar 4) (wCons (wVar 3) (wCons (wVar 2) (wCons (wVar 1) wNil))))))))
theorem ok_TwoMarksddgo_rows (T : Tx K mg) : FnD P w K mg base 5 T.a_TwoMarksddgo_rows T.d_TwoMarksddgo_rows ["self"] (W_TwoMarksddgo_rows T) := fnD_of T.F_TwoMarksddgo_rows sc_TwoMarksddgo_rows (fun cdv A outer s H E hr => (dss_one (ds_ret (de_lcN (i := 2) sc_TwoMarksddgo_rows.nd (di_rng2 (by rfl) T.n_range (da_cons de_int (da_cons (de_fld (dv 0) (ClsD.one T.cl_TwoMarks T.na_TwoMarks__width)) da_nil))) [("places", 2), ("state", 4), ("side", 3), ("bit", 1)] (blkOk_by (N := N_TwoMarksddgo_rows) (sc := defScope s_TwoMarksddgo_rows) (by decide +kernel)) (fun _ _ _ _ _ => pg_name (i := 2) sc_TwoMarksddgo_rows.nd rfl (Or.inl rfl)) (fun _ _ _ _ _ => (DCs.cons (pg_name (i := 4) sc_TwoMarksddgo_rows.nd rfl (Or.inl rfl)) (di_rng1 (by rfl) T.n_range (da_cons (de_fld (de_fld (dv 0) (ClsD.one T.cl_TwoMarks T.na_TwoMarks_upper)) (ClsD.one T.cl_Tape T.na_Tape_states)) da_nil)) (fun _ => rfl) (DCs.cons (pg_name (i := 3) sc_TwoMarksddgo_rows.nd rfl (Or.inl rfl)) (di_items (de_tup (da_cons de_int (da_cons de_int da_nil)))) (fun _ => rfl) (DCs.cons (pg_name (i := 1) sc_TwoMarksddgo_rows.nd rfl (Or.inl rfl)) (di_items (de_tup (da_cons de_int (da_cons de_int da_nil)))) (fun _ => rfl) DCs.nil)))) (fun _ _ _ _ _ => (de_meth (dv 0) T.cl_TwoMarks T.me_TwoMarksddgo_row (ok_TwoMarksddgo_row T) wDef_ar (hr.mono (by decide)) T.b_TwoMarksddgo_row (da_cons (dv 4) (da_cons (dv 3) (da_cons (dv 2) (da_cons (dv 1) da_nil)))))) rfl rfl (by decide)))))
abbrev N_TwoMarksdd_initdd : List Str := ["self", "machine", "bits", "states"]
theorem sc_TwoMarksdd_initdd : FnScope ["self", "machine", "bits", "states"] ["self", "machine"] (defScope s_TwoMarksdd_initdd) := ⟨rfl, rfl, rfl, by decide +kernel, rfl, by decide +kernel, by decide +kernel⟩
def W_TwoMarksdd_initdd (T : Tx K mg) : WF := wDef 2 4 ((wSeq (wSet 2 (wCall (W_width T) (wCons (wFld [T.C_Tape] (wVar 1) "marks") wNil)))
    (wSeq (wSet 3 (wOp2 gTimes (wFld [T.C_Tape] (wVar 1) "states") (wOp2 gMinus (wOp2 gAdd (wOp2 gTimes (wC (.int 3)) (wOp2 gShl (wC (.int 1)) (wVar 2))) (wOp2 gTimes (wC (.int 2)) (wVar 2))) (wC (.int 7)))))
    (wSeq (wIfS (wB (wOp2 gGt (wVar 3) (wC (.int 4000)))) (wRaise T.X_BadMachine) wNext)
    (wSeq (wFldS [T.C_TwoMarks] (wVar 0) (wVar 1) "upper")
    (wSeq (wFldS [T.C_TwoMarks] (wVar 0) (wVar 2) "_width")
    (wFldS [T.C_TwoMarks] (wVar 0) (wMake T.C_Tape (W_Tapedd_initdd T) (wCons (wC (.int 2)) (wCons (wVar 3) (wCons (wOp2 gAdd (wOp2 gAdd (wMeth T.C_TwoMarks "_read_rows" (W_TwoMarksddread_rows T) (wVar 0) wNil) (wMeth T.C_TwoMarks "_write_rows" (W_TwoMarksddwrite_rows T) (wVar 0) wNil)) (wMeth T.C_TwoMarks "_go_rows" (W_TwoMarksddgo_rows T) (wVar 0) wNil)) wNil)))) "lower")))))))
theorem ok_TwoMarksdd_initdd (T : Tx K mg) : FnD P w K mg base 6 T.a_TwoMarksdd_initdd T.d_TwoMarksdd_initdd ["self", "machine"] (W_TwoMarksdd_initdd T) := fnD_of T.F_TwoMarksdd_initdd sc_TwoMarksdd_initdd (fun cdv A outer s H E hr => (dss_cons (ds_set (i := 2) sc_TwoMarksdd_initdd.nd (de_call (ok_width T) wDef_ar (hr.mono (by decide)) rfl T.m_width T.F_width.kp T.b_width (da_cons (de_fld (dv 1) (ClsD.one T.cl_Tape T.na_Tape_marks)) da_nil)))
    (dss_cons (ds_set (i := 3) sc_TwoMarksdd_initdd.nd (de_bin o_times (de_fld (dv 1) (ClsD.one T.cl_Tape T.na_Tape_states)) (de_bin o_sub (de_bin o_add (de_bin o_times de_int (de_bin o_shl de_int (dv 2))) (de_bin o_times de_int (dv 2))) de_int)))
    (dss_cons (ds_if (dt_cmp o_gt (dv 3) (de_gint T.k_MOST_STATES)) (dss_one (ds_raise PySem.F.excBase_ValueError T.xq_BadMachine T.xg_BadMachine T.xk_BadMachine (raises_own T.xb_BadMachine T.xt_BadMachine) rfl)) dss_nil)
    (dss_cons (ds_fld (dv 0) (dv 1) (ClsD.one T.cl_TwoMarks T.na_TwoMarks_upper))
    (dss_cons (ds_fld (dv 0) (dv 2) (ClsD.one T.cl_TwoMarks T.na_TwoMarks__width))
    (dss_one (ds_fld (dv 0) (de_make T.mk_Tape (ok_Tapedd_initdd T) wDef_ar (hr.mono (by decide)) rfl T.mc_Tape T.b_Tapedd_initdd (da_cons de_int (da_cons (dv 3) (da_cons (de_bin o_add (de_bin o_add (de_meth0 (dv 0) T.cl_TwoMarks T.me_TwoMarksddread_rows (ok_TwoMarksddread_rows T) wDef_ar (hr.mono (by decide)) T.b_TwoMarksddread_rows) (de_meth0 (dv 0) T.cl_TwoMarks T.me_TwoMarksddwrite_rows (ok_TwoMarksddwrite_rows T) wDef_ar (hr.mono (by decide)) T.b_TwoMarksddwrite_rows)) (de_meth0 (dv 0) T.cl_TwoMarks T.me_TwoMarksddgo_rows (ok_TwoMarksddgo_rows T) wDef_ar (hr.mono (by decide)) T.b_TwoMarksddgo_rows)) da_nil)))) (ClsD.one T.cl_TwoMarks T.na_TwoMarks_lower)))))))))
abbrev N_law_refused : List Str := ["machine", "e"]
theorem sc_law_refused : FnScope ["machine", "e"] ["machine"] (defScope s_law_refused) := ⟨rfl, rfl, rfl, by decide +kernel, rfl, by decide +kernel, by decide +kernel⟩
def W_law_refused (T : Tx K mg) : WF := wDef 1 2 ((wSeq (wTry (wExpr (wMake T.C_TwoMarks (W_TwoMarksdd_initdd T) (wCons (wVar 0) wNil))) [(T.X_BadMachine, true)] 1 (fun aa xc => fun E env h => xc = .own T.X_BadMachine ∧ (wRet (wAndV (wIsE 1 aa true) (wAndV (wIsE 1 aa true) (wNotV (wIsE 1 aa false))))) E env h))
    (wRet (wC (.bl false)))))
theorem ok_law_refused (T : Tx K mg) : FnD P w K mg base 8 T.a_law_refused T.d_law_refused ["machine"] (W_law_refused T) := fnD_of T.F_law_refused sc_law_refused (fun cdv A outer s H E hr => (dss_cons (ds_try sc_law_refused.nd ⟨by rfl, by decide, .inl T.xg_StairError⟩ (fun q hq => by rw [List.mem_singleton.mp hq]; exact T.xm_BadMachine_StairError) (fun pn xe => (dss_one (ds_expr (de_make T.mk_TwoMarks (ok_TwoMarksdd_initdd T) wDef_ar (hr.mono (by decide)) rfl T.mc_TwoMarks T.b_TwoMarksdd_initdd (da_cons (dv 0) da_nil))))) (fun aa oe xc cls dd pn ec ed hz hf => dss_pure (fun ex => by subst ex; have e1 := ed _ rfl; subst e1; rw [ec] at hz; exact (dss_one (ds_ret (de_and (de_isE (vc := .ref T.X_BadMachine) T.xe_BadMachine hz hf T.xi_BadMachine_BadMachine (fun u r => r) (pe_var (i := 1) (by rfl) (Or.inl rfl)) (pe_glob (v := .ref T.X_BadMachine) (by rfl) T.xg_BadMachine rfl) (hm := T.n_isinstance)) (de_and (de_isE (vc := .ty "ValueError") T.xe_BadMachine hz hf T.xi_BadMachine_ValueError (fun u r => r) (pe_var (i := 1) (by rfl) (Or.inl rfl)) (pe_bltn (v := .ty "ValueError") (by rfl) T.n_ValueError (by decide +kernel) rfl) (hm := T.n_isinstance)) (de_one (de_not (de_isE (vc := .ref T.X_BadMark) T.xe_BadMachine hz hf T.xi_BadMachine_BadMark (fun u r => r) (pe_var (i := 1) (by rfl) (Or.inl rfl)) (pe_glob (v := .ref T.X_BadMark) (by rfl) T.xg_BadMark rfl) (hm := T.n_isinstance)))))))))) (i := 1))
    (dss_one (ds_ret de_bl))))
abbrev N_law_width : List Str := ["marks", "wide", "k"]
theorem sc_law_width : FnScope ["marks", "wide", "k"] ["marks"] (defScope s_law_width) := ⟨rfl, rfl, rfl, by decide +kernel, rfl, by decide +kernel, by decide +kernel⟩
def W_law_width (T : Tx K mg) : WF := wDef 1 3 ((wSeq (wSet 1 (wC (.int 1)))
    (wSeq (wFor (wRng2 (wCons (wC (.int 1)) (wCons (wC (.int 5)) wNil))) (gN 2) (wIfS (wB (wOp2 gGt (wVar 0) (wOp2 gIx (wLst (wCons (wC (.int 0)) (wCons (wC (.int 2)) (wCons (wC (.int 4)) (wCons (wC (.int 8)) (wCons (wC (.int 16)) wNil)))))) (wVar 2)))) (wSet 1 (wOp2 gAdd (wVar 2) (wC (.int 1)))) wNext))
    (wRet (wVar 1)))))
theorem ok_law_width (T : Tx K mg) : FnD P w K mg base 1 T.a_law_width T.d_law_width ["marks"] (W_law_width T) := fnD_of T.F_law_width sc_law_width (fun cdv A outer s H E hr => (dss_cons (ds_set (i := 1) sc_law_width.nd de_int)
    (dss_cons (ds_for (di_rng2 (by rfl) T.n_range (da_cons de_int (da_cons de_int da_nil))) (dg_name (i := 2) sc_law_width.nd) (dss_one (ds_if (dt_cmp o_gt (dv 0) (de_ix o_ix (de_lst (da_cons de_int (da_cons de_int (da_cons de_int (da_cons de_int (da_cons de_int da_nil)))))) (dv 2))) (dss_one (ds_set (i := 1) sc_law_width.nd (de_bin o_add (dv 2) de_int))) dss_nil)))
    (dss_one (ds_ret (dv 1))))))
abbrev N_law_is_integer : List Str := ["actual"]
theorem sc_law_is_integer : FnScope ["actual"] ["actual"] (defScope s_law_is_integer) := ⟨rfl, rfl, rfl, by decide +kernel, rfl, by decide +kernel, by decide +kernel⟩
def W_law_is_integer (T : Tx K mg) : WF := wDef 1 1 ((wRet (wAndV (wIsi (wVar 0) "int") (wNotV (wIsi (wVar 0) "bool")))))
theorem ok_law_is_integer (T : Tx K mg) : FnD P w K mg base 1 T.a_law_is_integer T.d_law_is_integer ["actual"] (W_law_is_integer T) := fnD_of T.F_law_is_integer sc_law_is_integer (fun cdv A outer s H E hr => (dss_one (ds_ret (de_and (de_isi (by rfl) T.n_isinstance (by rfl) T.n_int (by decide +kernel) (dv 0)) (de_one (de_not (de_isi (by rfl) T.n_isinstance (by rfl) T.n_bool (by decide +kernel) (dv 0))))))))
abbrev N_block : List Str := ["marks", "mark", "bits", "at"]
theorem sc_block : FnScope ["marks", "mark", "bits", "at"] ["marks", "mark"] (defScope s_block) := ⟨rfl, rfl, rfl, by decide +kernel, rfl, by decide +kernel, by decide +kernel⟩
def W_block (T : Tx K mg) : WF := wDef 2 4 ((wSeq (wSet 2 (wCall (W_width T) (wCons (wVar 0) wNil)))
    (wRet (wCB gTupC (wCons (wLc (wRng1 (wCons (wVar 2) wNil)) 3 wYes (wOp2 gBand (wOp2 gShr (wVar 1) (wOp2 gMinus (wOp2 gMinus (wVar 2) (wC (.int 1))) (wVar 3))) (wC (.int 1)))) wNil)))))
theorem ok_block (T : Tx K mg) : FnD P w K mg base 2 T.a_block T.d_block ["marks", "mark"] (W_block T) := fnD_of T.F_block sc_block (fun cdv A outer s H E hr => (dss_cons (ds_set (i := 2) sc_block.nd (de_call (ok_width T) wDef_ar (hr.mono (by decide)) rfl T.m_width T.F_width.kp T.b_width (da_cons (dv 0) da_nil)))
    (dss_one (ds_ret (de_callTy c_tuple (by rfl) T.n_tuple (by decide +kernel) (da_cons (de_lc sc_block.nd (di_rng1 (by rfl) T.n_range (da_cons (dv 2) da_nil)) (blkOk_by (N := N_block) (sc := defScope s_block) (by decide +kernel)) (fun _ _ _ _ _ => pg_name (i := 3) sc_block.nd rfl (Or.inl rfl)) (fun _ _ _ _ _ => dts_nil) (fun _ _ _ _ _ => (de_bin o_and (de_bin o_shr (dv 1) (de_bin o_sub (de_bin o_sub (dv 2) de_int) (dv 3))) de_int))) da_nil))))))
abbrev N_are_numbers : List Str := ["value", "low", "high", "item"]
theorem sc_are_numbers : FnScope ["value", "low", "high", "item"] ["value", "low", "high"] (defScope s_are_numbers) := ⟨rfl, rfl, rfl, by decide +kernel, rfl, by decide +kernel, by decide +kernel⟩
def W_are_numbers (T : Tx K mg) : WF := wDef 3 4 ((wSeq (wIfS (wNot (wB (wIsi (wVar 0) "tuple"))) (wRet (wC (.bl false))) wNext)
    (wRet (wCB (gAllL fun bs => bs.all id) (wCons (wLc (wItems (wVar 0)) 3 wYes (wCall (W_is_number T) (wCons (wVar 3) (wCons (wVar 1) (wCons (wVar 2) wNil))))) wNil)))))
theorem ok_are_numbers (T : Tx K mg) : FnD P w K mg base 3 T.a_are_numbers T.d_are_numbers ["value", "low", "high"] (W_are_numbers T) := fnD_of T.F_are_numbers sc_are_numbers (fun cdv A outer s H E hr => (dss_cons (ds_if (dt_not (dt_val (de_isi (by rfl) T.n_isinstance (by rfl) T.n_tuple (by decide +kernel) (dv 0)))) (dss_one (ds_ret de_bl)) dss_nil)
    (dss_one (ds_ret (de_callB c_all (by rfl) T.n_all (by decide +kernel) (da_cons (de_lc sc_are_numbers.nd (di_items (dv 0)) (blkOk_by (N := N_are_numbers) (sc := defScope s_are_numbers) (by decide +kernel)) (fun _ _ _ _ _ => pg_name (i := 3) sc_are_numbers.nd rfl (Or.inl rfl)) (fun _ _ _ _ _ => dts_nil) (fun _ _ _ _ _ => (de_call (ok_is_number T) wDef_ar (hr.mono (by decide)) rfl T.m_is_number T.F_is_number.kp T.b_is_number (da_cons (dv 3) (da_cons (dv 1) (da_cons (dv 2) da_nil)))))) da_nil))))))
abbrev N_mark_of : List Str := ["marks", "bits", "mark", "bit"]
theorem sc_mark_of : FnScope ["marks", "bits", "mark", "bit"] ["marks", "bits"] (defScope s_mark_of) := ⟨rfl, rfl, rfl, by decide +kernel, rfl, by decide +kernel, by decide +kernel⟩
def W_mark_of (T : Tx K mg) : WF := wDef 2 4 ((wSeq (wIfS (wOr (wNot (wTru (wCall (W_are_numbers T) (wCons (wVar 1) (wCons (wC (.int 0)) (wCons (wC (.int 1)) wNil)))))) (wB (wOp2 (gEq true) (wCB gLen (wCons (wVar 1) wNil)) (wCall (W_width T) (wCons (wVar 0) wNil))))) (wRet (wC .non)) wNext)
    (wSeq (wSet 2 (wC (.int 0)))
    (wSeq (wFor (wItems (wVar 1)) (gN 3) (wSet 2 (wOp2 gAdd (wOp2 gTimes (wC (.int 2)) (wVar 2)) (wVar 3))))
    (wRet (wIf (wB (wOp2 gLt (wVar 2) (wVar 0))) (wVar 2) (wC .non)))))))
theorem ok_mark_of (T : Tx K mg) : FnD P w K mg base 4 T.a_mark_of T.d_mark_of ["marks", "bits"] (W_mark_of T) := fnD_of T.F_mark_of sc_mark_of (fun cdv A outer s H E hr => (dss_cons (ds_if (dt_w (dw_or (dt_not (dt_truth (de_call (ok_are_numbers T) wDef_ar (hr.mono (by decide)) rfl T.m_are_numbers T.F_are_numbers.kp T.b_are_numbers (da_cons (dv 1) (da_cons de_int (da_cons de_int da_nil)))))) (dw_or1 (dt_cmp (o_ne hr.units) (de_callB c_len (by rfl) T.n_len PySem.boot_len (da_cons (dv 1) da_nil)) (de_call (ok_width T) wDef_ar (hr.mono (by decide)) rfl T.m_width T.F_width.kp T.b_width (da_cons (dv 0) da_nil)))))) (dss_one (ds_ret de_non)) dss_nil)
    (dss_cons (ds_set (i := 2) sc_mark_of.nd de_int)
    (dss_cons (ds_for (di_items (dv 1)) (dg_name (i := 3) sc_mark_of.nd) (dss_one (ds_set (i := 2) sc_mark_of.nd (de_bin o_add (de_bin o_times de_int (dv 2)) (dv 3)))))
    (dss_one (ds_ret (de_if (dt_cmp o_lt (dv 2) (dv 0)) (dv 2) de_non)))))))
abbrev N_law_block : List Str := ["marks", "mark", "bits", "k"]
theorem sc_law_block : FnScope ["marks", "mark", "bits", "k"] ["marks", "mark"] (defScope s_law_block) := ⟨rfl, rfl, rfl, by decide +kernel, rfl, by decide +kernel, by decide +kernel⟩
def W_law_block (T : Tx K mg) : WF := wDef 2 4 ((wSeq (wSet 2 (wTup wNil))
    (wSeq (wFor (wRng1 (wCons (wCall (W_law_width T) (wCons (wVar 0) wNil)) wNil)) (gN 3) (wSeq (wSet 2 (wOp2 gAdd (wTup (wCons (wOp2 gMod (wCB gIntC (wCons (wVar 1) wNil)) (wC (.int 2))) wNil)) (wVar 2)))
    (wSet 1 (wOp2 gFdiv (wVar 1) (wC (.int 2))))))
    (wRet (wVar 2)))))
theorem ok_law_block (T : Tx K mg) : FnD P w K mg base 2 T.a_law_block T.d_law_block ["marks", "mark"] (W_law_block T) := fnD_of T.F_law_block sc_law_block (fun cdv A outer s H E hr => (dss_cons (ds_set (i := 2) sc_law_block.nd (de_tup da_nil))
    (dss_cons (ds_for (di_rng1 (by rfl) T.n_range (da_cons (de_call (ok_law_width T) wDef_ar (hr.mono (by decide)) rfl T.m_law_width T.F_law_width.kp T.b_law_width (da_cons (dv 0) da_nil)) da_nil)) (dg_name (i := 3) sc_law_block.nd) (dss_cons (ds_set (i := 2) sc_law_block.nd (de_bin o_add (de_tup (da_cons (de_bin o_mod (de_callTy c_int (by rfl) T.n_int (by decide +kernel) (da_cons (dv 1) da_nil)) de_int) da_nil)) (dv 2)))
    (dss_one (ds_set (i := 1) sc_law_block.nd (de_bin o_div (dv 1) de_int)))))
    (dss_one (ds_ret (dv 2))))))
abbrev N_law_power : List Str := ["count"]
theorem sc_law_power : FnScope ["count"] ["count"] (defScope s_law_power) := ⟨rfl, rfl, rfl, by decide +kernel, rfl, by decide +kernel, by decide +kernel⟩
def W_law_power (T : Tx K mg) : WF := wDef 1 1 ((wRet (wOp2 gIx (wLst (wCons (wC (.int 1)) (wCons (wC (.int 2)) (wCons (wC (.int 4)) (wCons (wC (.int 8)) (wCons (wC (.int 16)) wNil)))))) (wVar 0))))
theorem ok_law_power (T : Tx K mg) : FnD P w K mg base 1 T.a_law_power T.d_law_power ["count"] (W_law_power T) := fnD_of T.F_law_power sc_law_power (fun cdv A outer s H E hr => (dss_one (ds_ret (de_ix o_ix (de_lst (da_cons de_int (da_cons de_int (da_cons de_int (da_cons de_int (da_cons de_int da_nil)))))) (dv 0)))))
abbrev N_law_prefixes : List Str := ["count", "k"]
theorem sc_law_prefixes : FnScope ["count", "k"] ["count"] (defScope s_law_prefixes) := ⟨rfl, rfl, rfl, by decide +kernel, rfl, by decide +kernel, by decide +kernel⟩
def W_law_prefixes (T : Tx K mg) : WF := wDef 1 2 ((wRet (wIf (wB (wOp2 gGt (wVar 0) (wC (.int 0)))) (wLc (wRng1 (wCons (wCall (W_law_power T) (wCons (wVar 0) wNil)) wNil)) 1 wYes (wCall (W_law_block T) (wCons (wOp2 gIx (wLst (wCons (wC (.int 2)) (wCons (wC (.int 2)) (wCons (wC (.int 4)) (wCons (wC (.int 8)) (wCons (wC (.int 16)) wNil)))))) (wVar 0)) (wCons (wVar 1) wNil)))) (wLst (wCons (wTup wNil) wNil)))))
theorem ok_law_prefixes (T : Tx K mg) : FnD P w K mg base 3 T.a_law_prefixes T.d_law_prefixes ["count"] (W_law_prefixes T) := fnD_of T.F_law_prefixes sc_law_prefixes (fun cdv A outer s H E hr => (dss_one (ds_ret (de_if (dt_cmp o_gt (dv 0) de_int) (de_lc sc_law_prefixes.nd (di_rng1 (by rfl) T.n_range (da_cons (de_call (ok_law_power T) wDef_ar (hr.mono (by decide)) rfl T.m_law_power T.F_law_power.kp T.b_law_power (da_cons (dv 0) da_nil)) da_nil)) (blkOk_by (N := N_law_prefixes) (sc := defScope s_law_prefixes) (by decide +kernel)) (fun _ _ _ _ _ => pg_name (i := 1) sc_law_prefixes.nd rfl (Or.inl rfl)) (fun _ _ _ _ _ => dts_nil) (fun _ _ _ _ _ => (de_call (ok_law_block T) wDef_ar (hr.mono (by decide)) rfl T.m_law_block T.F_law_block.kp T.b_law_block (da_cons (de_ix o_ix (de_lst (da_cons de_int (da_cons de_int (da_cons de_int (da_cons de_int (da_cons de_int da_nil)))))) (dv 0)) (da_cons (dv 1) da_nil))))) (de_lst (da_cons (de_tup da_nil) da_nil))))))
abbrev N_law_value : List Str := ["bits", "number", "bit"]
theorem sc_law_value : FnScope ["bits", "number", "bit"] ["bits"] (defScope s_law_value) := ⟨rfl, rfl, rfl, by decide +kernel, rfl, by decide +kernel, by decide +kernel⟩
def W_law_value (T : Tx K mg) : WF := wDef 1 3 ((wSeq (wSet 1 (wC (.int 0)))
    (wSeq (wFor (wItems (wVar 0)) (gN 2) (wSet 1 (wOp2 gAdd (wOp2 gTimes (wC (.int 2)) (wVar 1)) (wVar 2))))
    (wRet (wVar 1)))))
theorem ok_law_value (T : Tx K mg) : FnD P w K mg base 1 T.a_law_value T.d_law_value ["bits"] (W_law_value T) := fnD_of T.F_law_value sc_law_value (fun cdv A outer s H E hr => (dss_cons (ds_set (i := 1) sc_law_value.nd de_int)
    (dss_cons (ds_for (di_items (dv 0)) (dg_name (i := 2) sc_law_value.nd) (dss_one (ds_set (i := 1) sc_law_value.nd (de_bin o_add (de_bin o_times de_int (dv 1)) (dv 2)))))
    (dss_one (ds_ret (dv 1))))))
abbrev N_Tape_table : List Str := ["self"]
theorem sc_Tape_table : FnScope ["self"] ["self"] (defScope s_Tape_table) := ⟨rfl, rfl, rfl, by decide +kernel, rfl, by decide +kernel, by decide +kernel⟩
def W_Tape_table (T : Tx K mg) : WF := wDef 1 1 ((wRet (wCB gListC (wCons (wFld [T.C_Tape] (wVar 0) "_rows") wNil))))
theorem ok_Tape_table (T : Tx K mg) : FnD P w K mg base 1 T.a_Tape_table T.d_Tape_table ["self"] (W_Tape_table T) := fnD_of T.F_Tape_table sc_Tape_table (fun cdv A outer s H E hr => (dss_one (ds_ret (de_callTy c_list (by rfl) T.n_list (by decide +kernel) (da_cons (de_fld (dv 0) (ClsD.one T.cl_Tape T.na_Tape__rows)) da_nil)))))
abbrev N_law_read : List Str := ["machine", "state", "bits", "size"]
theorem sc_law_read : FnScope ["machine", "state", "bits", "size"] ["machine", "state", "bits"] (defScope s_law_read) := ⟨rfl, rfl, rfl, by decide +kernel, rfl, by decide +kernel, by decide +kernel⟩
def W_law_read (T : Tx K mg) : WF := wDef 3 4 ((wSeq (wSet 3 (wCall (W_law_power T) (wCons (wCB gLen (wCons (wVar 2) wNil)) wNil)))
    (wRet (wOp2 gAdd (wOp2 gAdd (wOp2 gTimes (wFld [T.C_Tape] (wVar 0) "states") (wOp2 gMinus (wVar 3) (wC (.int 1)))) (wOp2 gTimes (wVar 1) (wVar 3))) (wCall (W_law_value T) (wCons (wVar 2) wNil))))))
theorem ok_law_read (T : Tx K mg) : FnD P w K mg base 2 T.a_law_read T.d_law_read ["machine", "state", "bits"] (W_law_read T) := fnD_of T.F_law_read sc_law_read (fun cdv A outer s H E hr => (dss_cons (ds_set (i := 3) sc_law_read.nd (de_call (ok_law_power T) wDef_ar (hr.mono (by decide)) rfl T.m_law_power T.F_law_power.kp T.b_law_power (da_cons (de_callB c_len (by rfl) T.n_len PySem.boot_len (da_cons (dv 2) da_nil)) da_nil)))
    (dss_one (ds_ret (de_bin o_add (de_bin o_add (de_bin o_times (de_fld (dv 0) (ClsD.one T.cl_Tape T.na_Tape_states)) (de_bin o_sub (dv 3) de_int)) (de_bin o_times (dv 1) (dv 3))) (de_call (ok_law_value T) wDef_ar (hr.mono (by decide)) rfl T.m_law_value T.F_law_value.kp T.b_law_value (da_cons (dv 2) da_nil)))))))
abbrev N_law_write : List Str := ["machine", "state", "move", "bits", "size", "wide", "first"]
theorem sc_law_write : FnScope ["machine", "state", "move", "bits", "size", "wide", "first"] ["machine", "state", "move", "bits"] (defScope s_law_write) := ⟨rfl, rfl, rfl, by decide +kernel, rfl, by decide +kernel, by decide +kernel⟩
def W_law_write (T : Tx K mg) : WF := wDef 4 7 ((wSeq (wPar 4 5 (wCons (wCall (W_law_power T) (wCons (wCB gLen (wCons (wVar 3) wNil)) wNil)) (wCons (wCall (W_law_width T) (wCons (wFld [T.C_Tape] (wVar 0) "marks") wNil)) wNil)))
    (wSeq (wSet 6 (wOp2 gAdd (wOp2 gTimes (wFld [T.C_Tape] (wVar 0) "states") (wOp2 gMinus (wCall (W_law_power T) (wCons (wVar 5) wNil)) (wC (.int 1)))) (wOp2 gTimes (wOp2 gTimes (wC (.int 2)) (wFld [T.C_Tape] (wVar 0) "states")) (wOp2 gMinus (wVar 4) (wC (.int 2))))))
    (wRet (wOp2 gAdd (wOp2 gAdd (wVar 6) (wOp2 gTimes (wOp2 gAdd (wOp2 gTimes (wC (.int 2)) (wVar 1)) (wCB gIntC (wCons (wOp2 (gEq false) (wVar 2) (wC (.int 1))) wNil))) (wVar 4))) (wCall (W_law_value T) (wCons (wVar 3) wNil)))))))
theorem ok_law_write (T : Tx K mg) : FnD P w K mg base 2 T.a_law_write T.d_law_write ["machine", "state", "move", "bits"] (W_law_write T) := fnD_of T.F_law_write sc_law_write (fun cdv A outer s H E hr => (dss_cons (ds_par (i := 4) (j := 5) sc_law_write.nd (da_cons (de_call (ok_law_power T) wDef_ar (hr.mono (by decide)) rfl T.m_law_power T.F_law_power.kp T.b_law_power (da_cons (de_callB c_len (by rfl) T.n_len PySem.boot_len (da_cons (dv 3) da_nil)) da_nil)) (da_cons (de_call (ok_law_width T) wDef_ar (hr.mono (by decide)) rfl T.m_law_width T.F_law_width.kp T.b_law_width (da_cons (de_fld (dv 0) (ClsD.one T.cl_Tape T.na_Tape_marks)) da_nil)) da_nil)))
    (dss_cons (ds_set (i := 6) sc_law_write.nd (de_bin o_add (de_bin o_times (de_fld (dv 0) (ClsD.one T.cl_Tape T.na_Tape_states)) (de_bin o_sub (de_call (ok_law_power T) wDef_ar (hr.mono (by decide)) rfl T.m_law_power T.F_law_power.kp T.b_law_power (da_cons (dv 5) da_nil)) de_int)) (de_bin o_times (de_bin o_times de_int (de_fld (dv 0) (ClsD.one T.cl_Tape T.na_Tape_states))) (de_bin o_sub (dv 4) de_int))))
    (dss_one (ds_ret (de_bin o_add (de_bin o_add (dv 6) (de_bin o_times (de_bin o_add (de_bin o_times de_int (dv 1)) (de_callTy c_int (by rfl) T.n_int (by decide +kernel) (da_cons (de_cmp (o_eq hr.units) (dv 2) de_int) da_nil))) (dv 4))) (de_call (ok_law_value T) wDef_ar (hr.mono (by decide)) rfl T.m_law_value T.F_law_value.kp T.b_law_value (da_cons (dv 3) da_nil))))))))
abbrev N_law_read_row : List Str := ["machine", "state", "bits", "bit", "known", "wide", "row", "new"]
theorem sc_law_read_row : FnScope ["machine", "state", "bits", "bit", "known", "wide", "row", "new"] ["machine", "state", "bits", "bit"] (defScope s_law_read_row) := ⟨rfl, rfl, rfl, by decide +kernel, rfl, by decide +kernel, by decide +kernel⟩
def W_law_read_row (T : Tx K mg) : WF := wDef 4 8 ((wSeq (wPar 4 5 (wCons (wOp2 gAdd (wVar 2) (wTup (wCons (wVar 3) wNil))) (wCons (wCall (W_law_width T) (wCons (wFld [T.C_Tape] (wVar 0) "marks") wNil)) wNil)))
    (wSeq (wIfS (wB (wOp2 gLt (wCB gLen (wCons (wVar 4) wNil)) (wVar 5))) (wRet (wTup (wCons (wVar 3) (wCons (wC (.int 1)) (wCons (wCall (W_law_read T) (wCons (wVar 0) (wCons (wVar 1) (wCons (wVar 4) wNil)))) wNil))))) wNext)
    (wSeq (wIfS (wOr (wB (wOp2 gGe (wCall (W_law_value T) (wCons (wVar 4) wNil)) (wFld [T.C_Tape] (wVar 0) "marks"))) (wB (wOp2 (gIs false) (wMeth T.C_Tape "row" (W_Tape_row T) (wVar 0) (wCons (wVar 1) (wCons (wCall (W_law_value T) (wCons (wVar 4) wNil)) wNil))) (wC .non)))) (wRet (wC .non)) wNext)
    (wSeq (wSet 6 (wMeth T.C_Tape "row" (W_Tape_row T) (wVar 0) (wCons (wVar 1) (wCons (wCall (W_law_value T) (wCons (wVar 4) wNil)) wNil))))
    (wSeq (wSet 7 (wCall (W_law_block T) (wCons (wFld [T.C_Tape] (wVar 0) "marks") (wCons (wOp2 gIx (wVar 6) (wC (.int 0))) wNil))))
    (wSeq (wIfS (wB (wOp2 (gEq false) (wVar 5) (wC (.int 1)))) (wRet (wTup (wCons (wOp2 gIx (wVar 7) (wC (.int 0))) (wCons (wOp2 gIx (wVar 6) (wC (.int 1))) (wCons (wCall (W_law_read T) (wCons (wVar 0) (wCons (wOp2 gIx (wVar 6) (wC (.int 2))) (wCons (wTup wNil) wNil)))) wNil))))) wNext)
    (wRet (wTup (wCons (wOp2 gIx (wVar 7) (wNeg (wC (.int 1)))) (wCons (wNeg (wC (.int 1))) (wCons (wCall (W_law_write T) (wCons (wVar 0) (wCons (wOp2 gIx (wVar 6) (wC (.int 2))) (wCons (wOp2 gIx (wVar 6) (wC (.int 1))) (wCons (wSl (wVar 7) wNoP (wPart (wNeg (wC (.int 1))))) wNil))))) wNil))))))))))))
theorem ok_law_read_row (T : Tx K mg) : FnD P w K mg base 4 T.a_law_read_row T.d_law_read_row ["machine", "state", "bits", "bit"] (W_law_read_row T) := fnD_of T.F_law_read_row sc_law_read_row (fun cdv A outer s H E hr => (dss_cons (ds_par (i := 4) (j := 5) sc_law_read_row.nd (da_cons (de_bin o_add (dv 2) (de_tup (da_cons (dv 3) da_nil))) (da_cons (de_call (ok_law_width T) wDef_ar (hr.mono (by decide)) rfl T.m_law_width T.F_law_width.kp T.b_law_width (da_cons (de_fld (dv 0) (ClsD.one T.cl_Tape T.na_Tape_marks)) da_nil)) da_nil)))
    (dss_cons (ds_if (dt_cmp o_lt (de_callB c_len (by rfl) T.n_len PySem.boot_len (da_cons (dv 4) da_nil)) (dv 5)) (dss_one (ds_ret (de_tup (da_cons (dv 3) (da_cons de_int (da_cons (de_call (ok_law_read T) wDef_ar (hr.mono (by decide)) rfl T.m_law_read T.F_law_read.kp T.b_law_read (da_cons (dv 0) (da_cons (dv 1) (da_cons (dv 4) da_nil)))) da_nil)))))) dss_nil)
    (dss_cons (ds_if (dt_w (dw_or (dt_cmp o_ge (de_call (ok_law_value T) wDef_ar (hr.mono (by decide)) rfl T.m_law_value T.F_law_value.kp T.b_law_value (da_cons (dv 4) da_nil)) (de_fld (dv 0) (ClsD.one T.cl_Tape T.na_Tape_marks))) (dw_or1 (dt_cmp o_is (de_meth (dv 0) T.cl_Tape T.me_Tape_row (ok_Tape_row T) wDef_ar (hr.mono (by decide)) T.b_Tape_row (da_cons (dv 1) (da_cons (de_call (ok_law_value T) wDef_ar (hr.mono (by decide)) rfl T.m_law_value T.F_law_value.kp T.b_law_value (da_cons (dv 4) da_nil)) da_nil))) de_non)))) (dss_one (ds_ret de_non)) dss_nil)
    (dss_cons (ds_set (i := 6) sc_law_read_row.nd (de_meth (dv 0) T.cl_Tape T.me_Tape_row (ok_Tape_row T) wDef_ar (hr.mono (by decide)) T.b_Tape_row (da_cons (dv 1) (da_cons (de_call (ok_law_value T) wDef_ar (hr.mono (by decide)) rfl T.m_law_value T.F_law_value.kp T.b_law_value (da_cons (dv 4) da_nil)) da_nil))))
    (dss_cons (ds_set (i := 7) sc_law_read_row.nd (de_call (ok_law_block T) wDef_ar (hr.mono (by decide)) rfl T.m_law_block T.F_law_block.kp T.b_law_block (da_cons (de_fld (dv 0) (ClsD.one T.cl_Tape T.na_Tape_marks)) (da_cons (de_ix o_ix (dv 6) de_int) da_nil))))
    (dss_cons (ds_if (dt_cmp (o_eq hr.units) (dv 5) de_int) (dss_one (ds_ret (de_tup (da_cons (de_ix o_ix (dv 7) de_int) (da_cons (de_ix o_ix (dv 6) de_int) (da_cons (de_call (ok_law_read T) wDef_ar (hr.mono (by decide)) rfl T.m_law_read T.F_law_read.kp T.b_law_read (da_cons (dv 0) (da_cons (de_ix o_ix (dv 6) de_int) (da_cons (de_tup da_nil) da_nil)))) da_nil)))))) dss_nil)
    (dss_one (ds_ret (de_tup (da_cons (de_ix o_ix (dv 7) (de_neg de_int)) (da_cons (de_neg de_int) (da_cons (de_call (ok_law_write T) wDef_ar (hr.mono (by decide)) rfl T.m_law_write T.F_law_write.kp T.b_law_write (da_cons (dv 0) (da_cons (de_ix o_ix (dv 6) de_int) (da_cons (de_ix o_ix (dv 6) de_int) (da_cons (de_sl (dv 7) do_none (do_some (de_neg de_int))) da_nil))))) da_nil)))))))))))))
abbrev N_law_go : List Str := ["machine", "state", "move", "places", "wide", "first"]
theorem sc_law_go : FnScope ["machine", "state", "move", "places", "wide", "first"] ["machine", "state", "move", "places"] (defScope s_law_go) := ⟨rfl, rfl, rfl, by decide +kernel, rfl, by decide +kernel, by decide +kernel⟩
def W_law_go (T : Tx K mg) : WF := wDef 4 6 ((wSeq (wSet 4 (wCall (W_law_width T) (wCons (wFld [T.C_Tape] (wVar 0) "marks") wNil)))
    (wSeq (wSet 5 (wOp2 gAdd (wOp2 gTimes (wFld [T.C_Tape] (wVar 0) "states") (wOp2 gMinus (wCall (W_law_power T) (wCons (wVar 4) wNil)) (wC (.int 1)))) (wOp2 gTimes (wOp2 gTimes (wC (.int 2)) (wFld [T.C_Tape] (wVar 0) "states")) (wOp2 gMinus (wCall (W_law_power T) (wCons (wVar 4) wNil)) (wC (.int 2))))))
    (wRet (wOp2 gAdd (wOp2 gAdd (wOp2 gAdd (wVar 5) (wOp2 gTimes (wOp2 gTimes (wC (.int 2)) (wFld [T.C_Tape] (wVar 0) "states")) (wOp2 gMinus (wVar 3) (wC (.int 1))))) (wOp2 gTimes (wC (.int 2)) (wVar 1))) (wCB gIntC (wCons (wOp2 (gEq false) (wVar 2) (wC (.int 1))) wNil)))))))
theorem ok_law_go (T : Tx K mg) : FnD P w K mg base 2 T.a_law_go T.d_law_go ["machine", "state", "move", "places"] (W_law_go T) := fnD_of T.F_law_go sc_law_go (fun cdv A outer s H E hr => (dss_cons (ds_set (i := 4) sc_law_go.nd (de_call (ok_law_width T) wDef_ar (hr.mono (by decide)) rfl T.m_law_width T.F_law_width.kp T.b_law_width (da_cons (de_fld (dv 0) (ClsD.one T.cl_Tape T.na_Tape_marks)) da_nil)))
    (dss_cons (ds_set (i := 5) sc_law_go.nd (de_bin o_add (de_bin o_times (de_fld (dv 0) (ClsD.one T.cl_Tape T.na_Tape_states)) (de_bin o_sub (de_call (ok_law_power T) wDef_ar (hr.mono (by decide)) rfl T.m_law_power T.F_law_power.kp T.b_law_power (da_cons (dv 4) da_nil)) de_int)) (de_bin o_times (de_bin o_times de_int (de_fld (dv 0) (ClsD.one T.cl_Tape T.na_Tape_states))) (de_bin o_sub (de_call (ok_law_power T) wDef_ar (hr.mono (by decide)) rfl T.m_law_power T.F_law_power.kp T.b_law_power (da_cons (dv 4) da_nil)) de_int))))
    (dss_one (ds_ret (de_bin o_add (de_bin o_add (de_bin o_add (dv 5) (de_bin o_times (de_bin o_times de_int (de_fld (dv 0) (ClsD.one T.cl_Tape T.na_Tape_states))) (de_bin o_sub (dv 3) de_int))) (de_bin o_times de_int (dv 1))) (de_callTy c_int (by rfl) T.n_int (by decide +kernel) (da_cons (de_cmp (o_eq hr.units) (dv 2) de_int) da_nil))))))))
abbrev N_law_rows : List Str := ["machine", "rows", "wide", "state", "count", "bits", "move", "row", "after", "found", "bit"]
theorem sc_law_rows : FnScope ["machine", "rows", "wide", "state", "count", "bits", "move", "row", "after", "found", "bit"] ["machine"] (defScope s_law_rows) := ⟨rfl, rfl, rfl, by decide +kernel, rfl, by decide +kernel, by decide +kernel⟩
def W_law_rows (T : Tx K mg) : WF := wDef 1 11 ((wSeq (wPar 1 2 (wCons (wDNew (.dK [])) (wCons (wCall (W_law_width T) (wCons (wFld [T.C_Tape] (wVar 0) "marks") wNil)) wNil)))
    (wSeq (wFor (wRng1 (wCons (wFld [T.C_Tape] (wVar 0) "states") wNil)) (gN 3) (wSeq (wFor (wRng1 (wCons (wVar 2) wNil)) (gN 4) (wFor (wItems (wCall (W_law_prefixes T) (wCons (wVar 4) wNil))) (gN 5) (wDPut (wVar 1) (wCall (W_law_read T) (wCons (wVar 0) (wCons (wVar 3) (wCons (wVar 5) wNil)))) (wLc (wItems (wLst (wCons (wC (.int 0)) (wCons (wC (.int 1)) wNil)))) 10 wYes (wCall (W_law_read_row T) (wCons (wVar 0) (wCons (wVar 3) (wCons (wVar 5) (wCons (wVar 10) wNil)))))))))
    (wFor (wItems (wLst (wCons (wNeg (wC (.int 1))) (wCons (wC (.int 1)) wNil)))) (gN 6) (wFor (wRng2 (wCons (wC (.int 1)) (wCons (wVar 2) wNil))) (gN 4) (wSeq (wFor (wItems (wCall (W_law_prefixes T) (wCons (wVar 4) wNil))) (gN 5) (wSeq (wSet 7 (wIf (wB (wOp2 gGt (wVar 4) (wC (.int 1)))) (wTup (wCons (wOp2 gIx (wVar 5) (wNeg (wC (.int 1)))) (wCons (wNeg (wC (.int 1))) (wCons (wCall (W_law_write T) (wCons (wVar 0) (wCons (wVar 3) (wCons (wVar 6) (wCons (wSl (wVar 5) wNoP (wPart (wNeg (wC (.int 1))))) wNil))))) wNil)))) (wTup (wCons (wOp2 gIx (wVar 5) (wC (.int 0))) (wCons (wVar 6) (wCons (wCall (W_law_go T) (wCons (wVar 0) (wCons (wVar 3) (wCons (wVar 6) (wCons (wOp2 gMinus (wVar 2) (wC (.int 1))) wNil))))) wNil))))))
    (wDPut (wVar 1) (wCall (W_law_write T) (wCons (wVar 0) (wCons (wVar 3) (wCons (wVar 6) (wCons (wVar 5) wNil))))) (wLst (wCons (wVar 7) (wCons (wVar 7) wNil))))))
    (wSeq (wSet 8 (wIf (wB (wOp2 gGt (wVar 4) (wC (.int 1)))) (wCall (W_law_go T) (wCons (wVar 0) (wCons (wVar 3) (wCons (wVar 6) (wCons (wOp2 gMinus (wVar 4) (wC (.int 1))) wNil))))) (wCall (W_law_read T) (wCons (wVar 0) (wCons (wVar 3) (wCons (wTup wNil) wNil))))))
    (wDPut (wVar 1) (wCall (W_law_go T) (wCons (wVar 0) (wCons (wVar 3) (wCons (wVar 6) (wCons (wVar 4) wNil))))) (wLst (wCons (wTup (wCons (wC (.int 0)) (wCons (wVar 6) (wCons (wVar 8) wNil)))) (wCons (wTup (wCons (wC (.int 1)) (wCons (wVar 6) (wCons (wVar 8) wNil)))) wNil))))))))))
    (wSeq (wSet 9 (wLst wNil))
    (wSeq (wFor (wItems (wCB gSortK (wCons (wVar 1) wNil))) (gN 3) (wSet 9 (wOp2 gAdd (wVar 9) (wDGet (wVar 1) (wVar 3)))))
    (wRet (wVar 9)))))))
theorem ok_law_rows (T : Tx K mg) : FnD P w K mg base 5 T.a_law_rows T.d_law_rows ["machine"] (W_law_rows T) := fnD_of T.F_law_rows sc_law_rows (fun cdv A outer s H E hr => (dss_cons (ds_par (i := 1) (j := 2) sc_law_rows.nd (da_cons de_dnewK (da_cons (de_call (ok_law_width T) wDef_ar (hr.mono (by decide)) rfl T.m_law_width T.F_law_width.kp T.b_law_width (da_cons (de_fld (dv 0) (ClsD.one T.cl_Tape T.na_Tape_marks)) da_nil)) da_nil)))
    (dss_cons (ds_for (di_rng1 (by rfl) T.n_range (da_cons (de_fld (dv 0) (ClsD.one T.cl_Tape T.na_Tape_states)) da_nil)) (dg_name (i := 3) sc_law_rows.nd) (dss_cons (ds_for (di_rng1 (by rfl) T.n_range (da_cons (dv 2) da_nil)) (dg_name (i := 4) sc_law_rows.nd) (dss_one (ds_for (di_items (de_call (ok_law_prefixes T) wDef_ar (hr.mono (by decide)) rfl T.m_law_prefixes T.F_law_prefixes.kp T.b_law_prefixes (da_cons (dv 4) da_nil))) (dg_name (i := 5) sc_law_rows.nd) (dss_one (ds_dput (hu_of hr) (dv 1) (de_call (ok_law_read T) wDef_ar (hr.mono (by decide)) rfl T.m_law_read T.F_law_read.kp T.b_law_read (da_cons (dv 0) (da_cons (dv 3) (da_cons (dv 5) da_nil)))) (de_lc sc_law_rows.nd (di_items (de_lst (da_cons de_int (da_cons de_int da_nil)))) (blkOk_by (N := N_law_rows) (sc := defScope s_law_rows) (by decide +kernel)) (fun _ _ _ _ _ => pg_name (i := 10) sc_law_rows.nd rfl (Or.inl rfl)) (fun _ _ _ _ _ => dts_nil) (fun _ _ _ _ _ => (de_call (ok_law_read_row T) wDef_ar (hr.mono (by decide)) rfl T.m_law_read_row T.F_law_read_row.kp T.b_law_read_row (da_cons (dv 0) (da_cons (dv 3) (da_cons (dv 5) (da_cons (dv 10) da_nil))))))))))))
    (dss_one (ds_for (di_items (de_lst (da_cons (de_neg de_int) (da_cons de_int da_nil)))) (dg_name (i := 6) sc_law_rows.nd) (dss_one (ds_for (di_rng2 (by rfl) T.n_range (da_cons de_int (da_cons (dv 2) da_nil))) (dg_name (i := 4) sc_law_rows.nd) (dss_cons (ds_for (di_items (de_call (ok_law_prefixes T) wDef_ar (hr.mono (by decide)) rfl T.m_law_prefixes T.F_law_prefixes.kp T.b_law_prefixes (da_cons (dv 4) da_nil))) (dg_name (i := 5) sc_law_rows.nd) (dss_cons (ds_set (i := 7) sc_law_rows.nd (de_if (dt_cmp o_gt (dv 4) de_int) (de_tup (da_cons (de_ix o_ix (dv 5) (de_neg de_int)) (da_cons (de_neg de_int) (da_cons (de_call (ok_law_write T) wDef_ar (hr.mono (by decide)) rfl T.m_law_write T.F_law_write.kp T.b_law_write (da_cons (dv 0) (da_cons (dv 3) (da_cons (dv 6) (da_cons (de_sl (dv 5) do_none (do_some (de_neg de_int))) da_nil))))) da_nil)))) (de_tup (da_cons (de_ix o_ix (dv 5) de_int) (da_cons (dv 6) (da_cons (de_call (ok_law_go T) wDef_ar (hr.mono (by decide)) rfl T.m_law_go T.F_law_go.kp T.b_law_go (da_cons (dv 0) (da_cons (dv 3) (da_cons (dv 6) (da_cons (de_bin o_sub (dv 2) de_int) da_nil))))) da_nil))))))
    (dss_one (ds_dput (hu_of hr) (dv 1) (de_call (ok_law_write T) wDef_ar (hr.mono (by decide)) rfl T.m_law_write T.F_law_write.kp T.b_law_write (da_cons (dv 0) (da_cons (dv 3) (da_cons (dv 6) (da_cons (dv 5) da_nil))))) (de_lst (da_cons (dv 7) (da_cons (dv 7) da_nil)))))))
    (dss_cons (ds_set (i := 8) sc_law_rows.nd (de_if (dt_cmp o_gt (dv 4) de_int) (de_call (ok_law_go T) wDef_ar (hr.mono (by decide)) rfl T.m_law_go T.F_law_go.kp T.b_law_go (da_cons (dv 0) (da_cons (dv 3) (da_cons (dv 6) (da_cons (de_bin o_sub (dv 4) de_int) da_nil))))) (de_call (ok_law_read T) wDef_ar (hr.mono (by decide)) rfl T.m_law_read T.F_law_read.kp T.b_law_read (da_cons (dv 0) (da_cons (dv 3) (da_cons (de_tup da_nil) da_nil))))))
    (dss_one (ds_dput (hu_of hr) (dv 1) (de_call (ok_law_go T) wDef_ar (hr.mono (by decide)) rfl T.m_law_go T.F_law_go.kp T.b_law_go (da_cons (dv 0) (da_cons (dv 3) (da_cons (dv 6) (da_cons (dv 4) da_nil))))) (de_lst (da_cons (de_tup (da_cons de_int (da_cons (dv 6) (da_cons (dv 8) da_nil)))) (da_cons (de_tup (da_cons de_int (da_cons (dv 6) (da_cons (dv 8) da_nil)))) da_nil)))))))))))))
    (dss_cons (ds_set (i := 9) sc_law_rows.nd (de_lst da_nil))
    (dss_cons (ds_for (di_items (de_callB c_sortK (by rfl) T.n_sorted (by decide +kernel) (da_cons (dv 1) da_nil))) (dg_name (i := 3) sc_law_rows.nd) (dss_one (ds_set (i := 9) sc_law_rows.nd (de_bin o_add (dv 9) (de_dget (hu_of hr) (dv 1) (dv 3))))))
    (dss_one (ds_ret (dv 9))))))))
abbrev N_law : List Str := ["script", "numbers", "machine", "wide", "mark", "bits", "due", "stair", "count"]
theorem sc_law : FnScope ["script", "numbers", "machine", "wide", "mark", "bits", "due", "stair", "count"] ["script"] (defScope s_law) := ⟨rfl, rfl, rfl, by decide +kernel, rfl, by decide +kernel, by decide +kernel⟩
def W_law (T : Tx K mg) : WF := wDef 1 9 ((wSeq (wSet 1 (wCall (W_law_digits T) (wCons (wCall (W_law_cell T) (wCons (wVar 0) (wCons (wC (.int 0)) wNil))) (wCons (wC (.int 38)) (wCons (wC (.int 840)) wNil)))))
    (wSeq (wSet 2 (wCall (W_law_tape T) (wCons (wVar 1) (wCons (wC (.int 16)) (wCons (wC (.int 5)) wNil)))))
    (wSeq (wIfS (wB (wOp2 (gEq false) (wOp2 gMod (wCB gIntC (wCons (wCall (W_law_cell T) (wCons (wVar 0) (wCons (wC (.int 1)) wNil))) wNil)) (wC (.int 30))) (wC (.int 7)))) (wSeq (wIfS (wOr (wB (wOp2 (gEq true) (wFld [T.C_Tape] (wFld [T.C_TwoMarks] (wMake T.C_TwoMarks (W_TwoMarksdd_initdd T) (wCons (wMake T.C_Tape (W_Tapedd_initdd T) (wCons (wC (.int 16)) (wCons (wC (.int 81)) (wCons (wOp2 gTimesL (wLst (wCons (wC .non) wNil)) (wC (.int 1296))) wNil)))) wNil)) "lower") "states") (wC (.int 3969)))) (wB (wOp2 (gEq true) (wFld [T.C_Tape] (wFld [T.C_TwoMarks] (wMake T.C_TwoMarks (W_TwoMarksdd_initdd T) (wCons (wMake T.C_Tape (W_Tapedd_initdd T) (wCons (wC (.int 4)) (wCons (wC (.int 444)) (wCons (wOp2 gTimesL (wLst (wCons (wC .non) wNil)) (wC (.int 1776))) wNil)))) wNil)) "lower") "states") (wC (.int 3996))))) (wRet (wC (.bl false))) wNext)
    (wRet (wAndV (wCall (W_law_refused T) (wCons (wMake T.C_Tape (W_Tapedd_initdd T) (wCons (wC (.int 16)) (wCons (wC (.int 82)) (wCons (wOp2 gTimesL (wLst (wCons (wC .non) wNil)) (wC (.int 1312))) wNil)))) wNil)) (wCall (W_law_refused T) (wCons (wMake T.C_Tape (W_Tapedd_initdd T) (wCons (wC (.int 4)) (wCons (wC (.int 445)) (wCons (wOp2 gTimesL (wLst (wCons (wC .non) wNil)) (wC (.int 1780))) wNil)))) wNil))))) wNext)
    (wSeq (wSet 3 (wCall (W_law_width T) (wCons (wFld [T.C_Tape] (wVar 2) "marks") wNil)))
    (wSeq (wIfS (wOr (wNot (wTru (wCall (W_law_is_integer T) (wCons (wCall (W_width T) (wCons (wFld [T.C_Tape] (wVar 2) "marks") wNil)) wNil)))) (wB (wOp2 (gEq true) (wCall (W_width T) (wCons (wFld [T.C_Tape] (wVar 2) "marks") wNil)) (wVar 3)))) (wRet (wC (.bl false))) wNext)
    (wSeq (wFor (wRng1 (wCons (wFld [T.C_Tape] (wVar 2) "marks") wNil)) (gN 4) (wSeq (wSet 5 (wCall (W_block T) (wCons (wFld [T.C_Tape] (wVar 2) "marks") (wCons (wVar 4) wNil))))
    (wIfS (wOr (wNot (wB (wIsi (wVar 5) "tuple"))) (wOr (wB (wOp2 (gEq true) (wVar 5) (wCall (W_law_block T) (wCons (wFld [T.C_Tape] (wVar 2) "marks") (wCons (wVar 4) wNil))))) (wB (wOp2 (gEq true) (wCall (W_mark_of T) (wCons (wFld [T.C_Tape] (wVar 2) "marks") (wCons (wVar 5) wNil))) (wVar 4))))) (wRet (wC (.bl false))) wNext)))
    (wSeq (wFor (wItems (wCall (W_law_prefixes T) (wCons (wVar 3) wNil))) (gN 5) (wSeq (wSet 6 (wC .non))
    (wSeq (wIfS (wB (wOp2 gLt (wCall (W_law_value T) (wCons (wVar 5) wNil)) (wFld [T.C_Tape] (wVar 2) "marks"))) (wSet 6 (wCall (W_law_value T) (wCons (wVar 5) wNil))) wNext)
    (wIfS (wB (wOp2 (gEq true) (wCall (W_mark_of T) (wCons (wFld [T.C_Tape] (wVar 2) "marks") (wCons (wVar 5) wNil))) (wVar 6))) (wRet (wC (.bl false))) wNext))))
    (wSeq (wSet 7 (wMake T.C_TwoMarks (W_TwoMarksdd_initdd T) (wCons (wVar 2) wNil)))
    (wSeq (wIfS (wOr (wB (wOp2 (gEq true) (wMeth T.C_Tape "table" (W_Tape_table T) (wFld [T.C_TwoMarks] (wVar 7) "upper") wNil) (wMeth T.C_Tape "table" (W_Tape_table T) (wVar 2) wNil))) (wB (wOp2 (gEq true) (wFld [T.C_Tape] (wFld [T.C_TwoMarks] (wVar 7) "lower") "marks") (wC (.int 2))))) (wRet (wC (.bl false))) wNext)
    (wSeq (wSet 8 (wOp2 gTimes (wFld [T.C_Tape] (wVar 2) "states") (wOp2 gMinus (wOp2 gAdd (wOp2 gTimes (wC (.int 3)) (wCall (W_law_power T) (wCons (wVar 3) wNil))) (wOp2 gTimes (wC (.int 2)) (wVar 3))) (wC (.int 7)))))
    (wRet (wAndV (wOp2 (gEq false) (wFld [T.C_Tape] (wFld [T.C_TwoMarks] (wVar 7) "lower") "states") (wVar 8)) (wOp2 (gEq false) (wMeth T.C_Tape "table" (W_Tape_table T) (wFld [T.C_TwoMarks] (wVar 7) "lower") wNil) (wCall (W_law_rows T) (wCons (wVar 2) wNil))))))))))))))))
theorem ok_law (T : Tx K mg) : FnD P w K mg base 9 T.a_law T.d_law ["script"] (W_law T) := fnD_of T.F_law sc_law (fun cdv A outer s H E hr => (dss_cons (ds_set (i := 1) sc_law.nd (de_call (ok_law_digits T) wDef_ar (hr.mono (by decide)) rfl T.m_law_digits T.F_law_digits.kp T.b_law_digits (da_cons (de_call (ok_law_cell T) wDef_ar (hr.mono (by decide)) rfl T.m_law_cell T.F_law_cell.kp T.b_law_cell (da_cons (dv 0) (da_cons de_int da_nil))) (da_cons de_int (da_cons de_int da_nil)))))
    (dss_cons (ds_set (i := 2) sc_law.nd (de_call (ok_law_tape T) wDef_ar (hr.mono (by decide)) rfl T.m_law_tape T.F_law_tape.kp T.b_law_tape (da_cons (dv 1) (da_cons de_int (da_cons de_int da_nil)))))
    (dss_cons (ds_if (dt_cmp (o_eq hr.units) (de_bin o_mod (de_callTy c_int (by rfl) T.n_int (by decide +kernel) (da_cons (de_call (ok_law_cell T) wDef_ar (hr.mono (by decide)) rfl T.m_law_cell T.F_law_cell.kp T.b_law_cell (da_cons (dv 0) (da_cons de_int da_nil))) da_nil)) de_int) de_int) (dss_cons (ds_if (dt_w (dw_or (dt_cmp (o_ne hr.units) (de_fld (de_fld (de_make T.mk_TwoMarks (ok_TwoMarksdd_initdd T) wDef_ar (hr.mono (by decide)) rfl T.mc_TwoMarks T.b_TwoMarksdd_initdd (da_cons (de_make T.mk_Tape (ok_Tapedd_initdd T) wDef_ar (hr.mono (by decide)) rfl T.mc_Tape T.b_Tapedd_initdd (da_cons de_int (da_cons de_int (da_cons (de_bin o_timesL (de_lst (da_cons de_non da_nil)) de_int) da_nil)))) da_nil)) (ClsD.one T.cl_TwoMarks T.na_TwoMarks_lower)) (ClsD.one T.cl_Tape T.na_Tape_states)) de_int) (dw_or1 (dt_cmp (o_ne hr.units) (de_fld (de_fld (de_make T.mk_TwoMarks (ok_TwoMarksdd_initdd T) wDef_ar (hr.mono (by decide)) rfl T.mc_TwoMarks T.b_TwoMarksdd_initdd (da_cons (de_make T.mk_Tape (ok_Tapedd_initdd T) wDef_ar (hr.mono (by decide)) rfl T.mc_Tape T.b_Tapedd_initdd (da_cons de_int (da_cons de_int (da_cons (de_bin o_timesL (de_lst (da_cons de_non da_nil)) de_int) da_nil)))) da_nil)) (ClsD.one T.cl_TwoMarks T.na_TwoMarks_lower)) (ClsD.one T.cl_Tape T.na_Tape_states)) de_int)))) (dss_one (ds_ret de_bl)) dss_nil)
    (dss_one (ds_ret (de_and (de_call (ok_law_refused T) wDef_ar (hr.mono (by decide)) rfl T.m_law_refused T.F_law_refused.kp T.b_law_refused (da_cons (de_make T.mk_Tape (ok_Tapedd_initdd T) wDef_ar (hr.mono (by decide)) rfl T.mc_Tape T.b_Tapedd_initdd (da_cons de_int (da_cons de_int (da_cons (de_bin o_timesL (de_lst (da_cons de_non da_nil)) de_int) da_nil)))) da_nil)) (de_one (de_call (ok_law_refused T) wDef_ar (hr.mono (by decide)) rfl T.m_law_refused T.F_law_refused.kp T.b_law_refused (da_cons (de_make T.mk_Tape (ok_Tapedd_initdd T) wDef_ar (hr.mono (by decide)) rfl T.mc_Tape T.b_Tapedd_initdd (da_cons de_int (da_cons de_int (da_cons (de_bin o_timesL (de_lst (da_cons de_non da_nil)) de_int) da_nil)))) da_nil))))))) dss_nil)
    (dss_cons (ds_set (i := 3) sc_law.nd (de_call (ok_law_width T) wDef_ar (hr.mono (by decide)) rfl T.m_law_width T.F_law_width.kp T.b_law_width (da_cons (de_fld (dv 2) (ClsD.one T.cl_Tape T.na_Tape_marks)) da_nil)))
    (dss_cons (ds_if (dt_w (dw_or (dt_not (dt_truth (de_call (ok_law_is_integer T) wDef_ar (hr.mono (by decide)) rfl T.m_law_is_integer T.F_law_is_integer.kp T.b_law_is_integer (da_cons (de_call (ok_width T) wDef_ar (hr.mono (by decide)) rfl T.m_width T.F_width.kp T.b_width (da_cons (de_fld (dv 2) (ClsD.one T.cl_Tape T.na_Tape_marks)) da_nil)) da_nil)))) (dw_or1 (dt_cmp (o_ne hr.units) (de_call (ok_width T) wDef_ar (hr.mono (by decide)) rfl T.m_width T.F_width.kp T.b_width (da_cons (de_fld (dv 2) (ClsD.one T.cl_Tape T.na_Tape_marks)) da_nil)) (dv 3))))) (dss_one (ds_ret de_bl)) dss_nil)
    (dss_cons (ds_for (di_rng1 (by rfl) T.n_range (da_cons (de_fld (dv 2) (ClsD.one T.cl_Tape T.na_Tape_marks)) da_nil)) (dg_name (i := 4) sc_law.nd) (dss_cons (ds_set (i := 5) sc_law.nd (de_call (ok_block T) wDef_ar (hr.mono (by decide)) rfl T.m_block T.F_block.kp T.b_block (da_cons (de_fld (dv 2) (ClsD.one T.cl_Tape T.na_Tape_marks)) (da_cons (dv 4) da_nil))))
    (dss_one (ds_if (dt_w (dw_or (dt_not (dt_val (de_isi (by rfl) T.n_isinstance (by rfl) T.n_tuple (by decide +kernel) (dv 5)))) (dw_or (dt_cmp (o_ne hr.units) (dv 5) (de_call (ok_law_block T) wDef_ar (hr.mono (by decide)) rfl T.m_law_block T.F_law_block.kp T.b_law_block (da_cons (de_fld (dv 2) (ClsD.one T.cl_Tape T.na_Tape_marks)) (da_cons (dv 4) da_nil)))) (dw_or1 (dt_cmp (o_ne hr.units) (de_call (ok_mark_of T) wDef_ar (hr.mono (by decide)) rfl T.m_mark_of T.F_mark_of.kp T.b_mark_of (da_cons (de_fld (dv 2) (ClsD.one T.cl_Tape T.na_Tape_marks)) (da_cons (dv 5) da_nil))) (dv 4)))))) (dss_one (ds_ret de_bl)) dss_nil))))
    (dss_cons (ds_for (di_items (de_call (ok_law_prefixes T) wDef_ar (hr.mono (by decide)) rfl T.m_law_prefixes T.F_law_prefixes.kp T.b_law_prefixes (da_cons (dv 3) da_nil))) (dg_name (i := 5) sc_law.nd) (dss_cons (ds_set (i := 6) sc_law.nd de_non)
    (dss_cons (ds_if (dt_cmp o_lt (de_call (ok_law_value T) wDef_ar (hr.mono (by decide)) rfl T.m_law_value T.F_law_value.kp T.b_law_value (da_cons (dv 5) da_nil)) (de_fld (dv 2) (ClsD.one T.cl_Tape T.na_Tape_marks))) (dss_one (ds_set (i := 6) sc_law.nd (de_call (ok_law_value T) wDef_ar (hr.mono (by decide)) rfl T.m_law_value T.F_law_value.kp T.b_law_value (da_cons (dv 5) da_nil)))) dss_nil)
    (dss_one (ds_if (dt_cmp (o_ne hr.units) (de_call (ok_mark_of T) wDef_ar (hr.mono (by decide)) rfl T.m_mark_of T.F_mark_of.kp T.b_mark_of (da_cons (de_fld (dv 2) (ClsD.one T.cl_Tape T.na_Tape_marks)) (da_cons (dv 5) da_nil))) (dv 6)) (dss_one (ds_ret de_bl)) dss_nil)))))
    (dss_cons (ds_set (i := 7) sc_law.nd (de_make T.mk_TwoMarks (ok_TwoMarksdd_initdd T) wDef_ar (hr.mono (by decide)) rfl T.mc_TwoMarks T.b_TwoMarksdd_initdd (da_cons (dv 2) da_nil)))
    (dss_cons (ds_if (dt_w (dw_or (dt_cmp (o_ne hr.units) (de_meth0 (de_fld (dv 7) (ClsD.one T.cl_TwoMarks T.na_TwoMarks_upper)) T.cl_Tape T.me_Tape_table (ok_Tape_table T) wDef_ar (hr.mono (by decide)) T.b_Tape_table) (de_meth0 (dv 2) T.cl_Tape T.me_Tape_table (ok_Tape_table T) wDef_ar (hr.mono (by decide)) T.b_Tape_table)) (dw_or1 (dt_cmp (o_ne hr.units) (de_fld (de_fld (dv 7) (ClsD.one T.cl_TwoMarks T.na_TwoMarks_lower)) (ClsD.one T.cl_Tape T.na_Tape_marks)) de_int)))) (dss_one (ds_ret de_bl)) dss_nil)
    (dss_cons (ds_set (i := 8) sc_law.nd (de_bin o_times (de_fld (dv 2) (ClsD.one T.cl_Tape T.na_Tape_states)) (de_bin o_sub (de_bin o_add (de_bin o_times de_int (de_call (ok_law_power T) wDef_ar (hr.mono (by decide)) rfl T.m_law_power T.F_law_power.kp T.b_law_power (da_cons (dv 3) da_nil))) (de_bin o_times de_int (dv 3))) de_int)))
    (dss_one (ds_ret (de_and (de_cmp (o_eq hr.units) (de_fld (de_fld (dv 7) (ClsD.one T.cl_TwoMarks T.na_TwoMarks_lower)) (ClsD.one T.cl_Tape T.na_Tape_states)) (dv 8)) (de_one (de_cmp (o_eq hr.units) (de_meth0 (de_fld (dv 7) (ClsD.one T.cl_TwoMarks T.na_TwoMarks_lower)) T.cl_Tape T.me_Tape_table (ok_Tape_table T) wDef_ar (hr.mono (by decide)) T.b_Tape_table) (de_call (ok_law_rows T) wDef_ar (hr.mono (by decide)) rfl T.m_law_rows T.F_law_rows.kp T.b_law_rows (da_cons (dv 2) da_nil))))))))))))))))))
end
section
variable {K : PySem.W.Frag} {mg : Str → Option Value}
local macro_rules | `(tactic| walk_at "ev") => `(tactic| ((try dsimp only [zVS, zVZ, zSS, zSZ, zItems_r, zItems_t, zItems_s, zItQ_i, zLenQ_r, zLenQ_tup, zLenQ_sl, zLstQ_r, zGIx_r, zGIx_tup, zGIx_sl, zGSl_r, zGSl_tup, zGRev_r, zGRev_tup, zSrcQ_r, zSrcQ_tup, zSrcI_r, zSrcI_sl, zSrcI_tup, zSrcI_otup, zFldQ_r, zQAt_some, zGAdd_int, zGAdd_tup, zGI_int, zGI0_int, zGTimes_int, zGTimes_tup, zGIs_non, zGIs_bl, zGIs_bln, zGIs_int, zGIs_tup, zGIs_ref, zGIs_str, zTyQ_int, zTyQ_non, zTyQ_bl, zTyQ_str, zTyQ_tup, zESet, zEExpr, zERet, zERetN, zENext, zEPass, zEBrk, zECnt, zEIfS, zEAsg, zEFor, zEFldS, zERaise, zEC, zENil, zECons, zETup, zELst, zEOp2, zEB, zETru, zTBl, zTNon, zTInt, zTTup, zEAnd, zEOr, zENot, zEAndV, zEOrV, zENotV, zEIf, zEIsi, zECB, zECall, zEFld, zEMeth, zEMake, zEAppend, zEPop, zESl, zENoP, zEPart, zENeg, zERev, zETupRev, zEChain, zEItems, zERng1, zERng2, zELc, zELen, zEOne, zEAbs, zEIntC, zEListC, zETupC, zEMaxT, zEYes, zEPar, zETry, zEIsE, zEAllL, zEGN, zEGNl, zEGCn, zEGT, zEGSub, zEIxQ, zENewL, zEBits, zEAugX, zEEnum]); repeat (simp only [zEAugI, zGEq_int, zGEq_bl, zTyQ_r, dup_same, zL0, zL1, zL2, zL3, zL4, beq_self_eq_true, true_and, Bool.false_eq_true, if_false, if_true, decide_eq_true_eq, isiB, Bool.true_or, Bool.false_or, Bool.or_false, Bool.or_true, Bool.and_true, Bool.true_and, Bool.false_and, Bool.and_false, Bool.not_true, Bool.not_false, Bool.not_eq_true', decide_eq_false_iff_not, reduceCtorEq, zAt0, zAt1, zAt2, zAt3, zEAugL]; try dsimp only [zVS, zVZ, zSS, zSZ, zItems_r, zItems_t, zItems_s, zItQ_i, zLenQ_r, zLenQ_tup, zLenQ_sl, zLstQ_r, zGIx_r, zGIx_tup, zGIx_sl, zGSl_r, zGSl_tup, zGRev_r, zGRev_tup, zSrcQ_r, zSrcQ_tup, zSrcI_r, zSrcI_sl, zSrcI_tup, zSrcI_otup, zFldQ_r, zQAt_some, zGAdd_int, zGAdd_tup, zGI_int, zGI0_int, zGTimes_int, zGTimes_tup, zGIs_non, zGIs_bl, zGIs_bln, zGIs_int, zGIs_tup, zGIs_ref, zGIs_str, zTyQ_int, zTyQ_non, zTyQ_bl, zTyQ_str, zTyQ_tup, zESet, zEExpr, zERet, zERetN, zENext, zEPass, zEBrk, zECnt, zEIfS, zEAsg, zEFor, zEFldS, zERaise, zEC, zENil, zECons, zETup, zELst, zEOp2, zEB, zETru, zTBl, zTNon, zTInt, zTTup, zEAnd, zEOr, zENot, zEAndV, zEOrV, zENotV, zEIf, zEIsi, zECB, zECall, zEFld, zEMeth, zEMake, zEAppend, zEPop, zESl, zENoP, zEPart, zENeg, zERev, zETupRev, zEChain, zEItems, zERng1, zERng2, zELc, zELen, zEOne, zEAbs, zEIntC, zEListC, zETupC, zEMaxT, zEYes, zEPar, zETry, zEIsE, zEAllL, zEGN, zEGNl, zEGCn, zEGT, zEGSub, zEIxQ, zENewL, zEBits, zEAugX, zEEnum])))
local macro_rules | `(tactic| walk_at "en") => `(tactic| simp only [List.map_cons, List.map_nil, Nat.reduceSub, List.replicate_succ, List.replicate_zero, List.cons_append, List.nil_append, List.append_nil])
local macro_rules | `(tactic| walk_at "sq") => `(tactic| (refine seq_i fun N hN => ?_; walk_at "ev"))
local macro_rules | `(tactic| walk_at "dv") => `(tactic| first | (dsimp only [zVS, zVZ, zSS, zSZ, zLenQ_tup, zLenQ_sl, zGIx_tup, zGIx_sl, zGSl_tup, zGRev_tup, zSrcQ_tup, zSrcI_r, zSrcI_sl, zSrcI_tup, zSrcI_otup, zQAt_some, zGAdd_int, zGAdd_tup, zGI_int, zGI0_int, zGTimes_int, zGTimes_tup, zGIs_non, zGIs_bl, zGIs_bln, zGIs_int, zGIs_tup, zGIs_ref, zGIs_str, zTyQ_int, zTyQ_non, zTyQ_bl, zTyQ_str, zTyQ_tup, zESet, zEExpr, zERet, zERetN, zENext, zEPass, zEBrk, zECnt, zEIfS, zEAsg, zEFor, zEFldS, zERaise, zEC, zENil, zECons, zETup, zELst, zEOp2, zEB, zETru, zTBl, zTNon, zTInt, zTTup, zEAnd, zEOr, zENot, zEAndV, zEOrV, zENotV, zEIf, zEIsi, zECB, zECall, zEFld, zEMeth, zEMake, zEAppend, zEPop, zESl, zENoP, zEPart, zENeg, zERev, zETupRev, zEChain, zEItems, zERng1, zERng2, zELc, zELen, zEOne, zEAbs, zEIntC, zEListC, zETupC, zEMaxT, zEYes, zEPar, zETry, zEIsE, zEGN, zEGNl, zEGCn, zEGT, zEGSub, zENewL, zEBits, zEAugX, zEEnum]; try simp only [zEAugI, zGEq_int, zGEq_bl, dup_same, dup_dup, beq_self_eq_true, true_and, Bool.false_eq_true, if_false, if_true, decide_eq_true_eq, isiB, Bool.true_or, Bool.false_or, Bool.or_false, Bool.or_true, Bool.and_true, Bool.true_and, Bool.false_and, Bool.and_false, Bool.not_true, Bool.not_false, Bool.not_eq_true', decide_eq_false_iff_not, reduceCtorEq, Bool.or_eq_false_iff, Bool.or_eq_true, not_true_eq_false, not_false_eq_true, String.reduceBEq, zAt0, zAt1, zAt2, zAt3, zEAugL]) | simp only [zEAugI, zGEq_int, zGEq_bl, dup_same, dup_dup, beq_self_eq_true, true_and, Bool.false_eq_true, if_false, if_true, decide_eq_true_eq, isiB, Bool.true_or, Bool.false_or, Bool.or_false, Bool.or_true, Bool.and_true, Bool.true_and, Bool.false_and, Bool.and_false, Bool.not_true, Bool.not_false, Bool.not_eq_true', decide_eq_false_iff_not, reduceCtorEq, Bool.or_eq_false_iff, Bool.or_eq_true, not_true_eq_false, not_false_eq_true, String.reduceBEq, zAt0, zAt1, zAt2, zAt3, zEAugL])
local macro_rules | `(tactic| walk_at "sz") => `(tactic| (have hsz__ : sizeLine = 16777216 := rfl; (try simp only [List.length_map, List.length_append, List.length_cons, List.length_nil, List.length_reverse, List.length_drop, List.length_take, List.length_replicate, List.length_set, List.length_range, repLen]); omega))
local macro_rules | `(tactic| walk_at "sd") => `(tactic| first | assumption | omega | exact cdiv (by omega) (by omega) | exact cmulR (by omega) (by omega) | exact cmulL (by omega) (by omega) | walk_at "sz" | (with_reducible rfl) | ((with_reducible show List.length _ = _); rfl) | ((with_reducible show getElem? _ _ = some (some (D.ref _))); rfl) | ((with_reducible show @Eq (Option DO) _ _); walk_at "hp") | exact cpow_s (by omega) (by omega) (by omega) (by omega))
local macro_rules | `(tactic| walk_at "hp") => `(tactic| first | assumption | exact dup_same | exact dup_old (by walk_at "hp") (by assumption) | (refine (dup_ne ?g1).trans ?g2; (case g1 => first | assumption | (exact Ne.symm (by assumption))); (case g2 => walk_at "hp")))
local macro_rules | `(tactic| walk_at "g1") => `(tactic| first
  | ((with_reducible refine seq_c fun _ _ => ?_))
  | ((with_reducible refine cont_go (s := ?s1) (E := ?s2) ?g1 ?g2); (case g1 => assumption))
  | ((with_reducible refine rx_go (Q := ?s1) (Qx := ?s2) ?g1 ?g2); (case g1 => assumption))
  | ((with_reducible refine nx_go (Q := ?s1) (Qx := ?s2) ?g1 ?g2); (case g1 => assumption))
  | walk_at "dv"
  | ((with_reducible refine gIx_i (xs := ?s1) ?g1 ?g2); (case g1 => walk_at "hp"))
  | ((with_reducible refine qat_i (d := ?s1) ?g1 ?g2); (case g1 => first | assumption | exact zAt0 | exact zAt1 | exact zAt2 | exact zAt3))
  | ((with_reducible refine ixQ_i (j := ?s1) ?g1 ?g2); (case g1 => first | assumption | rfl | exact ixN_nat (by walk_at "sz")))
  | ((with_reducible refine lenQ_i (xs := ?s1) ?g1 ?g2); (case g1 => walk_at "hp"))
  | ((with_reducible refine lstQ_i (xs := ?s1) ?g1 ?g2); (case g1 => walk_at "hp"))
  | ((with_reducible refine And.intro (lstQ_i (xs := ?s1) ?g1 True.intro) ?g2); (case g1 => walk_at "hp"))
  | ((with_reducible refine srcQ_i (xs := ?s1) ?g1 ?g2); (case g1 => walk_at "hp"))
  | ((with_reducible refine itQ_i (xs := ?s1) ?g1 ?g2); (case g1 => walk_at "hp"))
  | ((with_reducible refine itQ_t ?_))
  | ((with_reducible refine itQ_s ?_))
  | ((with_reducible refine gSl_s ?_))
  | ((with_reducible refine srcQ_s ?_))
  | ((with_reducible refine gSl_i (xs := ?s1) ?g1 ?g2); (case g1 => walk_at "hp"))
  | ((with_reducible refine gRev_i (xs := ?s1) ?g1 ?g2); (case g1 => walk_at "hp"))
  | ((with_reducible refine gAddL_i (xs := ?s1) (ys := ?s2) ?g1 ?g2 ?g3 ?g4); (case g1 => walk_at "hp"); (case g2 => walk_at "hp"); (case g3 => walk_at "sz"))
  | ((with_reducible refine fld_i (C := ?s1) (fs := ?s2) (d := ?s3) ?g1 ?g2 ?g3 ?g4); (case g1 => walk_at "hp"); (case g2 => exact List.mem_singleton_self _); (case g3 => rfl))
  | ((with_reducible refine truL (xs := ?s1) ?g1 ?g2); (case g1 => walk_at "hp"))
  | ((with_reducible refine gTimesL_i (xs := ?s1) ?g1 ?g2 ?g3); (case g1 => walk_at "hp"); (case g2 => first | exact ⟨by decide, by decide, by decide⟩ | exact ⟨by omega, by omega, by walk_at "sz"⟩))
  | (with_reducible refine gInI2 ?_)
  | (with_reducible refine catch_i ?_)
  | ((with_reducible refine catch_a ?_); intro _)
  | ((with_reducible refine tyQ_i (xs := ?s1) ?g1 ?g2); (case g1 => walk_at "hp"))
  | ((with_reducible refine And.intro (insQ_i (fs := ?s1) ?g1 ?g2) ?g3); (case g1 => walk_at "hp"); (case g2 => rfl))
  | ((with_reducible refine fldS_i (C := ?s1) (fs := ?s2) ?g1 ?g2 ?g3 ?g4); (case g1 => walk_at "hp"); (case g2 => exact List.mem_singleton_self _); (case g3 => first | exact (show 0 < 1000 by decide) | exact (show 1 < 1000 by decide) | exact (show 2 < 1000 by decide) | exact (show 3 < 1000 by decide) | exact (show 4 < 1000 by decide) | exact (show 5 < 1000 by decide) | exact (show 6 < 1000 by decide)))
  | ((with_reducible refine gEqS_t ?g1 ?g2); (case g1 => decide +kernel))
  | ((with_reducible refine gEqS_f ?g1 ?g2 ?g3 ?g4); (case g1 => decide +kernel); (case g2 => decide +kernel); (case g3 => decide +kernel))
  | (with_reducible rw [if_pos (by walk_at "sd")])
  | (with_reducible rw [if_neg (by walk_at "sd")])
  | ((with_reducible refine And.intro ?g1 ?g2); (case g1 => walk_at "sd"))
  | walk_at "call")
local macro_rules | `(tactic| walk_at "sb") => `(tactic| first | exact Sub.refl _ | assumption | exact Sub.new (by assumption) | exact (Sub.new (by assumption)).trans (Sub.new (by assumption)) | exact sub_last (by assumption) (by assumption))
local macro_rules | `(tactic| walk_at "rt") => `(tactic| (refine rt_sub (Q := ?s1) (Qx := ?s2) (h := ?s3) ?g1 ?g2 ?g3; (case g1 => assumption); (case g3 => assumption); (case g2 => walk_at "sb")))
local macro_rules | `(tactic| walk_at "rg") => `(tactic| (refine rt_go (Q := ?s1) (Qx := ?s2) ?g1 ?g2; (case g1 => assumption)))
local macro_rules | `(tactic| walk_at "go") => `(tactic| repeat walk_at "g1")
local macro_rules | `(tactic| walk_at "df") => `(tactic| (refine def_c rfl fun _ _ => ?_; walk_at "en"; walk_at "go"))
local macro_rules | `(tactic| walk_at "dw") => `(tactic| first | (dsimp only [zVS, zVZ, zSS, zSZ, zLenQ_tup, zLenQ_sl, zGIx_tup, zGIx_sl, zGSl_tup, zGRev_tup, zSA, zSN, zST, zSU, zSrcQ_tup, zSrcI_r, zSrcI_sl, zSrcI_tup, zSrcI_otup, zQAt_some, zGAdd_int, zGAdd_tup, zGI_int, zGI0_int, zGTimes_int, zGTimes_tup, zGIs_non, zGIs_bl, zGIs_bln, zGIs_int, zGIs_tup, zGIs_ref, zGIs_str, zTyQ_int, zTyQ_non, zTyQ_bl, zTyQ_str, zTyQ_tup, zESet, zEExpr, zERet, zERetN, zENext, zEPass, zEBrk, zECnt, zEIfS, zEAsg, zEFor, zEFldS, zERaise, zEC, zENil, zECons, zETup, zELst, zEOp2, zEB, zETru, zTBl, zTNon, zTInt, zTTup, zEAnd, zEOr, zENot, zEAndV, zEOrV, zENotV, zEIf, zEIsi, zECB, zECall, zEFld, zEMeth, zEMake2, zEExtend, zEClear, zEDelTo, zEMin2, zEMax2, zEAppend, zEPop, zESl, zENoP, zEPart, zENeg, zERev, zETupRev, zEChain, zEItems, zERng1, zERng2, zELc2, zELen, zEOne, zEAbs, zEIntC, zEListC, zETupC, zEMaxT, zEYes, zEPar, zETry, zEIsE, zEGN, zEGNl, zEGCn, zEGT, zEGSub, zEBits, zEAugX, zEEnum, zEEnumA, zELcP, zEGcd, zEAlt, zEMtS, zStrK, zGJoin, zGFindS, zGFind3, zGStarts, zGStarts3, zGInS, zLenQ_str, zGAdd_str, zGSl_str, zGIx_str, zEDGet, zEGet1, zEGet2, zEDIn, zEDPut, zESigns, zGIndexS, zEDisp, zPsN, zPsC, zEDNew, zGTimesS, zEIsC, zELcT, zERevR1, zEZipM, zELenRg, zEPutSt, zESlSt, zEDcP, zEMtT, zEGTo, zERng3, zERevA, zEDivmod, zESlStT, zSlStT, zGStrC, zEFmt, zFmtS, zFmtI, zEJs, zJN, zJC, zEDcS, zEPrT, zEPrK, zEKyT, zEKyK, zETupK, zEDispT, zEZip3, zZip3Q, zTyQ_otup, zLenQ_otup, zGIx_otup, zEDcT, zERngO, zERngI, zERevK, zGRevK, zEMinD, zELcN]; try simp only [Option.isNone_none, Option.isNone_some, zEAugT, zEAugTx, zEAugM, zEAugF, List.isEmpty_nil, List.isEmpty_cons, zEIntCb, cut_63, decide_true, decide_false, List.cons_append, List.nil_append, List.length_map, List.length_range, Int.zero_add, Int.reduceAdd, Int.reduceSub, Int.reduceMul, cut_to, cut_fr, cut_fr1, cut_to1, cut_f1, cut_f2, cut_f3, cut_t1, cut_t2, cut_t3, cut_m1, List.drop_succ_cons, List.drop_zero, List.take_succ_cons, List.take_zero, List.drop_nil, List.take_nil, List.dropLast_cons_cons, List.dropLast_singleton, ← List.map_take, ← List.map_drop, Int.toNat_natCast, zEAugI, zGEq_int, zGEq_bl, dup_same, dup_dup, beq_self_eq_true, true_and, Bool.false_eq_true, if_false, if_true, decide_eq_true_eq, isiB, Bool.true_or, Bool.false_or, Bool.or_false, Bool.or_true, Bool.and_true, Bool.true_and, Bool.false_and, Bool.and_false, Bool.not_true, Bool.not_false, Bool.not_eq_true', decide_eq_false_iff_not, reduceCtorEq, Bool.or_eq_false_iff, Bool.or_eq_true, not_true_eq_false, not_false_eq_true, String.reduceBEq, zAt0, zAt1, zAt2, zAt3, zEAugL]) | simp only [Option.isNone_none, Option.isNone_some, zEAugT, zEAugTx, zEAugM, zEAugF, List.isEmpty_nil, List.isEmpty_cons, zEIntCb, cut_63, decide_true, decide_false, List.cons_append, List.nil_append, List.length_map, List.length_range, Int.zero_add, Int.reduceAdd, Int.reduceSub, Int.reduceMul, cut_to, cut_fr, cut_fr1, cut_to1, cut_f1, cut_f2, cut_f3, cut_t1, cut_t2, cut_t3, cut_m1, List.drop_succ_cons, List.drop_zero, List.take_succ_cons, List.take_zero, List.drop_nil, List.take_nil, List.dropLast_cons_cons, List.dropLast_singleton, ← List.map_take, ← List.map_drop, Int.toNat_natCast, zEAugI, zGEq_int, zGEq_bl, dup_same, dup_dup, beq_self_eq_true, true_and, Bool.false_eq_true, if_false, if_true, decide_eq_true_eq, isiB, Bool.true_or, Bool.false_or, Bool.or_false, Bool.or_true, Bool.and_true, Bool.true_and, Bool.false_and, Bool.and_false, Bool.not_true, Bool.not_false, Bool.not_eq_true', decide_eq_false_iff_not, reduceCtorEq, Bool.or_eq_false_iff, Bool.or_eq_true, not_true_eq_false, not_false_eq_true, String.reduceBEq, zAt0, zAt1, zAt2, zAt3, zEAugL])
local macro_rules | `(tactic| walk_at "ws") => `(tactic| first | (with_reducible exact Sub.refl _) | (with_reducible assumption) | exact Prv.s (by with_reducible assumption) | ((refine Sub.trans (h1 := ?s1) ?g1 ?g2); (case g2 => with_reducible assumption); (case g1 => walk_at "ws")) | ((refine sub_dup0 ?g1 ?g2); (case g1 => walk_at "ws"); (case g2 => walk_at "wn")))
local macro_rules | `(tactic| walk_at "wn") => `(tactic| first | (with_reducible assumption) | ((refine Dis.at (h := ?s1) (o := ?s2) ?g1 ?g2); (case g1 => with_reducible assumption); (case g2 => walk_at "wh")) | ((refine Sub.fresh (h' := ?s1) ?g1 ?g2); (case g2 => with_reducible assumption); (case g1 => walk_at "ws")))
local macro_rules | `(tactic| walk_at "wh") => `(tactic| first | (with_reducible assumption) | (with_reducible exact dup_same) | ((refine sub_at (h := ?s1) ?g1 ?g2); (case g2 => with_reducible assumption); (case g1 => walk_at "ws")) | ((refine (dup_ne ?g1).trans ?g2); (case g1 => walk_at "wq"); (case g2 => walk_at "wh")) | ((refine sub_at (h := ?s1) ?g1 ?g2); (case g1 => with_reducible assumption); (case g2 => walk_at "wh")))
local macro_rules | `(tactic| walk_at "wh0") => `(tactic| first | (with_reducible assumption) | (with_reducible exact dup_same) | ((refine sub_at (h := ?s1) ?g1 ?g2); (case g2 => with_reducible assumption); (case g1 => walk_at "ws")))
local macro_rules | `(tactic| walk_at "wq") => `(tactic| first | (with_reducible assumption) | exact Ne.symm (by with_reducible assumption) | ((refine ne_fresh (h := ?s1) (o := ?s2) ?g1 ?g2); (case g2 => with_reducible assumption); (case g1 => walk_at "wh")) | ((refine Ne.symm (ne_fresh (h := ?s1) (o := ?s2) ?g1 ?g2)); (case g2 => with_reducible assumption); (case g1 => walk_at "wh")))
local macro_rules | `(tactic| walk_at "wi") => `(tactic| first | (with_reducible assumption) | walk_at "wix")
local macro_rules | `(tactic| walk_at "pl") => `(tactic| first | (with_reducible exact plI) | (with_reducible exact plNon) | ((with_reducible refine plS ?g1); (case g1 => decide +kernel)) | ((with_reducible refine plT ?g1); (case g1 => walk_at "pl")) | (with_reducible exact pl_nil) | (with_reducible exact pl_ints _) | ((with_reducible refine pl_cons ?g1 ?g2); (case g1 => walk_at "pl"); (case g2 => walk_at "pl")) | ((with_reducible refine pl_app ?g1 ?g2); (case g1 => walk_at "pl"); (case g2 => walk_at "pl")) | (with_reducible assumption) | walk_at "plx")
local macro_rules | `(tactic| walk_at "eq") => `(tactic| first | (with_reducible rfl) | assumption | (exact Eq.symm (by assumption)) | walk_at "eqx")
local macro_rules | `(tactic| walk_at "wd") => `(tactic| first | (with_reducible assumption) | omega | exact cdiv (by omega) (by omega) | exact cmulR (by omega) (by omega) | exact cmulL (by omega) (by omega) | exact imulL (by omega) (by omega) | exact imulR (by omega) (by omega) | walk_at "sz" | (with_reducible rfl) | ((with_reducible show List.length _ = _); rfl) | ((with_reducible show getElem? _ _ = some (some (D.ref _))); rfl) | ((with_reducible show @Eq (Option DO) _ _); walk_at "wh") | exact cpow_s (by omega) (by omega) (by omega) (by omega) | (with_reducible exact True.intro) | exact lgI (by omega) (by omega))
local macro_rules | `(tactic| walk_at "w1") => `(tactic| first
  | ((with_reducible refine seq_c fun _ _ => ?_))
  | ((with_reducible refine cont_go (s := ?s1) (E := ?s2) ?g1 ?g2); (case g1 => assumption))
  | walk_at "dw"
  | ((with_reducible refine newL_go ?_); intro _ _ _ _ _)
  | ((with_reducible refine gIx_i (xs := ?s1) ?g1 ?g2); (case g1 => walk_at "wh"))
  | ((with_reducible refine qat_i (d := ?s1) ?g1 ?g2); (case g1 => with_reducible first | assumption | exact zAt0 | exact zAt1 | exact zAt2 | exact zAt3))
  | ((with_reducible refine qat_dg (m := ?s1) ?g1 ?g2 ?g3 ?g4); (case g1 => assumption); (case g2 => omega); (case g3 => omega))
  | ((with_reducible refine ixQ_0 ?g1 ?g2); (case g1 => walk_at "sz"))
  | ((with_reducible refine ixQ_i (j := ?s1) ?g1 ?g2); (case g1 => first | assumption | exact ixN_nat (by walk_at "sz")))
  | ((with_reducible refine ixQ_n ?g1 ?g2 ?g3); (case g1 => omega); (case g2 => walk_at "sz"))
  | ((with_reducible refine lenQ_i (xs := ?s1) ?g1 ?g2); (case g1 => walk_at "wh"))
  | ((with_reducible refine lstQ_i (xs := ?s1) ?g1 ?g2); (case g1 => walk_at "wh"))
  | ((with_reducible refine And.intro (lstQ_i (xs := ?s1) ?g1 True.intro) ?g2); (case g1 => walk_at "wh"))
  | ((with_reducible refine srcQ_i (xs := ?s1) ?g1 ?g2); (case g1 => walk_at "wh"))
  | ((with_reducible refine itQ_i (xs := ?s1) ?g1 ?g2); (case g1 => walk_at "wh"))
  | ((with_reducible refine itQ_t ?_))
  | ((with_reducible refine itQ_s ?_))
  | ((with_reducible refine gSl_s ?_))
  | ((with_reducible refine srcQ_s ?_))
  | ((with_reducible refine gSl_i (xs := ?s1) ?g1 ?g2); (case g1 => walk_at "wh"))
  | ((with_reducible refine gRev_i (xs := ?s1) ?g1 ?g2); (case g1 => walk_at "wh"))
  | ((with_reducible refine gAddL_i (xs := ?s1) (ys := ?s2) ?g1 ?g2 ?g3 ?g4); (case g1 => walk_at "wh"); (case g2 => walk_at "wh"); (case g3 => walk_at "sz"))
  | ((with_reducible refine fld_i (C := ?s1) (fs := ?s2) (d := ?s3) ?g1 ?g2 ?g3 ?g4); (case g1 => walk_at "wh"); (case g2 => exact List.mem_singleton_self _); (case g3 => rfl))
  | ((with_reducible refine truL (xs := ?s1) ?g1 ?g2); (case g1 => walk_at "wh"))
  | ((with_reducible refine gTimesL_i (xs := ?s1) ?g1 ?g2 ?g3); (case g1 => walk_at "wh"); (case g2 => first | exact ⟨by decide, by decide, by decide⟩ | exact ⟨by omega, by omega, by walk_at "sz"⟩))
  | (with_reducible refine gInI2 ?_)
  | (with_reducible refine And.intro ref_ne_tup ?_)
  | (with_reducible refine And.intro sl_ne_tup ?_)
  | (with_reducible refine And.intro tup_ne_sl ?_)
  | (with_reducible refine And.intro ref_ne_sl ?_)
  | (with_reducible refine catch_i ?_)
  | ((with_reducible refine catch_a ?_); intro _)
  | ((with_reducible refine tyQ_i (xs := ?s1) ?g1 ?g2); (case g1 => walk_at "wh"))
  | ((with_reducible refine And.intro (insQ_i (fs := ?s1) ?g1 ?g2) ?g3); (case g1 => walk_at "wh"); (case g2 => rfl))
  | ((with_reducible refine fldS_i (C := ?s1) (fs := ?s2) ?g1 ?g2 ?g3 ?g4); (case g1 => walk_at "wh"); (case g2 => exact List.mem_singleton_self _); (case g3 => first | exact (show 0 < 1000 by decide) | exact (show 1 < 1000 by decide) | exact (show 2 < 1000 by decide) | exact (show 3 < 1000 by decide) | exact (show 4 < 1000 by decide) | exact (show 5 < 1000 by decide) | exact (show 6 < 1000 by decide)))
  | ((with_reducible refine allL_i (bs := ?s1) ?g1 ?g2); (case g1 => walk_at "wh0"))
  | ((with_reducible refine sum_i (ns := ?s1) ?g1 ?g2); (case g1 => walk_at "wh0"))
  | ((with_reducible refine listK_i (kvs := ?s1) ?g1 ?g2); (case g1 => walk_at "wh"))
  | ((with_reducible refine lkT_i (o := ?s1) (us := ?s2) (kvs := ?s3) ?g1 ?g2); (case g1 => walk_at "wh"))
  | ((with_reducible refine lkK_i (o := ?s1) (us := ?s2) (kvs := ?s3) ?g1 ?g2); (case g1 => walk_at "wh"))
  | ((with_reducible refine tyQ_dT (kvs := ?s1) ?g1 ?g2); (case g1 => walk_at "wh"))
  | ((with_reducible refine tyQ_dK (kvs := ?s1) ?g1 ?g2); (case g1 => walk_at "wh"))
  | ((with_reducible refine gEqS_t ?g1 ?g2); (case g1 => decide +kernel))
  | ((with_reducible refine gEqS_f ?g1 ?g2 ?g3 ?g4); (case g1 => decide +kernel); (case g2 => decide +kernel); (case g3 => decide +kernel))
  | (with_reducible rw [if_pos (by walk_at "wd")])
  | (with_reducible rw [if_neg (by walk_at "wd")])
  | ((with_reducible refine geq_yes (n := 8) ?g1 ?g2 ?g3 ?g4); (case g1 => decide); (case g3 => walk_at "eq"); (case g2 => walk_at "pl"))
  | ((with_reducible refine geq_yesR (n := 8) ?g1 ?g2 ?g3 ?g4); (case g1 => decide); (case g3 => walk_at "eq"); (case g2 => walk_at "pl"))
  | ((with_reducible refine geqL_yes (n := 8) (xs := ?s1) (ys := ?s2) ?g1 ?g2 ?g3 ?g4 ?g5 ?g6); (case g1 => decide); (case g2 => walk_at "wh"); (case g3 => walk_at "wh"); (case g5 => walk_at "eq"); (case g4 => walk_at "pl"))
  | ((with_reducible refine geqL_yesR (n := 8) (xs := ?s1) (ys := ?s2) ?g1 ?g2 ?g3 ?g4 ?g5 ?g6); (case g1 => decide); (case g2 => walk_at "wh"); (case g3 => walk_at "wh"); (case g5 => walk_at "eq"); (case g4 => walk_at "pl"))
  | walk_at "wcall"
  | ((with_reducible refine And.intro ?g1 ?g2); (case g1 => walk_at "wd"))
  | walk_at "wlc"
  | ((with_reducible refine rx_go (Q := ?s1) (Qx := ?s2) ?g1 ?g2); (case g1 => assumption))
  | ((with_reducible refine nx_go (Q := ?s1) (Qx := ?s2) ?g1 ?g2); (case g1 => assumption))
  | ((with_reducible refine rt_sub (Q := ?s1) (Qx := ?s2) (h := ?s3) ?g1 ?g2 ?g3); (case g1 => assumption); (case g3 => assumption); (case g2 => walk_at "ws"))
  | ((with_reducible refine rt_go (Q := fun d _ => d = D.bl true) (Qx := fun _ _ => False) ?g1 (rfl : D.bl true = D.bl true)); (case g1 => with_reducible assumption))
  | (with_reducible intro _))
local macro_rules | `(tactic| walk_at "wlc") => `(tactic| first
  | ((with_reducible refine lc_upI (f := ?s1) ?g1 ?g2 ?g3 ?g4); (case g1 => (intro _ _; first | exact True.intro | walk_at "wh")); (case g2 => walk_at "sz"); (case g3 => (intro _ _ _ _ _ hR__; walk_at "w"; with_reducible exact hR__ _ (by walk_at "ws"))))
  | ((with_reducible refine lc_upB (f := ?s1) ?g1 ?g2 ?g3 ?g4); (case g1 => (intro _ _; first | exact True.intro | walk_at "wh")); (case g2 => walk_at "sz"); (case g3 => (intro _ _ _ _ _ hR__; walk_at "w"; with_reducible exact hR__ _ (by walk_at "ws"))))
  | ((with_reducible refine lc_up (f := ?s1) ?g1 ?g2 ?g3 ?g4); (case g1 => (intro _ _; first | exact True.intro | walk_at "wh")); (case g2 => walk_at "sz"); (case g3 => (intro _ _ _ _ _ hR__; walk_at "w"; with_reducible exact hR__ _ (by walk_at "ws")))))
local macro_rules | `(tactic| walk_at "w") => `(tactic| repeat walk_at "w1")
local macro_rules | `(tactic| walk_at "wf") => `(tactic| (refine def_c rfl fun _ _ => ?_; walk_at "en"; walk_at "w"))
local macro_rules | `(tactic| walk_at "wrt") => `(tactic| ((refine rt_go (Q := ?s1) (Qx := ?s2) ?g1 ?g2); (case g1 => assumption)))
/-- marks without the zeros at their end -/
def tz : List Int → List Int
  | [] => []
  | x :: xs => match tz xs with
    | [] => if 0 < x then [x] else []
    | y :: ys => x :: y :: ys
theorem tz_cons {x : Int} {xs : List Int} (h : tz xs ≠ []) : tz (x :: xs) = x :: tz xs := by
  rw [tz]; split
  · rename_i e; exact absurd e h
  · rename_i e; rw [e]
theorem tz_nil {x : Int} {xs : List Int} (h : tz xs = []) : tz (x :: xs) = if 0 < x then [x] else [] := by
  rw [tz, h]
def cz (ms : List Int) : Nat := ((List.range ms.length).filter fun k => decide (0 < maxI 0 (ms.drop k))).length
theorem maxI_pos : ∀ (ms : List Int) (n : Int), (0 < maxI n ms ↔ 0 < n ∨ ∃ x ∈ ms, 0 < x)
  | [], n => by simp [maxI]
  | x :: xs, n => by
    have e : maxI n (x :: xs) = maxI (max n x) xs := rfl
    rw [e, maxI_pos xs]
    have : 0 < max n x ↔ 0 < n ∨ 0 < x := by omega
    rw [this]
    simp [or_assoc]
theorem cz_cons {x : Int} {xs : List Int} : cz (x :: xs) = (if 0 < maxI 0 (x :: xs) then 1 else 0) + cz xs := by
  unfold cz
  rw [List.length_cons, List.range_succ_eq_map, List.filter_cons]
  have e2 : ((List.map Nat.succ (List.range xs.length)).filter fun k => decide (0 < maxI 0 ((x :: xs).drop k))).length = ((List.range xs.length).filter fun k => decide (0 < maxI 0 (xs.drop k))).length := by
    rw [List.filter_map, List.length_map]; rfl
  rw [List.drop_zero]
  split
  · rename_i q
    rw [if_pos (of_decide_eq_true q), List.length_cons, e2]; omega
  · rename_i q
    rw [if_neg (fun z => q (decide_eq_true z)), e2]; omega
theorem tz_empty : ∀ (ms : List Int), tz ms = [] ↔ ¬ ∃ x ∈ ms, 0 < x
  | [] => by simp [tz]
  | x :: xs => by
    by_cases h : tz xs = []
    · rw [tz_nil h]
      have i := (tz_empty xs).mp h
      by_cases q : 0 < x
      · simp [q]
      · simp only [if_neg q, true_iff]
        rintro ⟨y, hy, p⟩
        rcases List.mem_cons.mp hy with rfl | z
        · exact q p
        · exact i ⟨y, z, p⟩
    · rw [tz_cons h]
      have i : ∃ x ∈ xs, 0 < x := Classical.byContradiction fun z => h ((tz_empty xs).mpr z)
      obtain ⟨y, hy, p⟩ := i
      simp only [List.cons_ne_nil, false_iff]
      exact fun z => z ⟨y, List.mem_cons_of_mem _ hy, p⟩
theorem cz_zero {ms : List Int} (h : tz ms = []) : cz ms = 0 := by
  unfold cz
  rw [List.length_eq_zero_iff, List.filter_eq_nil_iff]
  intro k _ z
  have := of_decide_eq_true z
  rw [maxI_pos] at this
  rcases this with q | ⟨x, hx, p⟩
  · omega
  · exact (tz_empty ms).mp h ⟨x, List.mem_of_mem_drop hx, p⟩
theorem take_cz : ∀ (ms : List Int), ms.take (cz ms) = tz ms
  | [] => rfl
  | x :: xs => by
    by_cases h : tz xs = []
    · rw [tz_nil h, cz_cons, cz_zero h]
      have i := (tz_empty xs).mp h
      have : 0 < maxI 0 (x :: xs) ↔ 0 < x := by
        rw [maxI_pos]
        constructor
        · rintro (q | ⟨y, hy, p⟩)
          · omega
          · rcases List.mem_cons.mp hy with rfl | z
            · exact p
            · exact absurd ⟨y, z, p⟩ i
        · exact fun q => .inr ⟨x, List.mem_cons_self, q⟩
      by_cases q : 0 < x
      · rw [if_pos (this.mpr q), if_pos q]; rfl
      · rw [if_neg (fun z => q (this.mp z)), if_neg q]; rfl
    · have i : ∃ x ∈ xs, 0 < x := Classical.byContradiction fun z => h ((tz_empty xs).mpr z)
      obtain ⟨y, hy, p⟩ := i
      rw [tz_cons h, cz_cons, if_pos ((maxI_pos _ _).mpr (.inr ⟨y, List.mem_cons_of_mem _ hy, p⟩)), Nat.add_comm, List.take_succ_cons, take_cz xs]
theorem tz_le (ms : List Int) : (tz ms).length ≤ ms.length := by rw [← take_cz, List.length_take]; omega
theorem tz_mem {ms : List Int} {x : Int} (h : x ∈ tz ms) : x ∈ ms := by rw [← take_cz] at h; exact List.mem_of_mem_take h
theorem tz_append_zero : ∀ (l : List Int), tz (l ++ [0]) = tz l
  | [] => rfl
  | x :: xs => by
    rw [List.cons_append]
    have i := tz_append_zero xs
    by_cases h : tz xs = []
    · rw [tz_nil h, tz_nil (by rw [i]; exact h)]
    · rw [tz_cons h, tz_cons (by rw [i]; exact h), i]
theorem tz_append_pos {y : Int} (hy : 0 < y) : ∀ (l : List Int), tz (l ++ [y]) = l ++ [y]
  | [] => by rw [List.nil_append, tz_nil rfl, if_pos hy]
  | x :: xs => by
    rw [List.cons_append, tz_cons (by rw [tz_append_pos hy xs]; simp), tz_append_pos hy xs]
/-- marks of a side: of m marks, none of them a zero at the end -/
def SideOk (m : Int) (ms : List Int) : Prop := (∀ x ∈ ms, 0 ≤ x ∧ x < m) ∧ tz ms = ms
theorem tz_tz : ∀ (ms : List Int), tz (tz ms) = tz ms
  | [] => rfl
  | x :: xs => by
    by_cases h : tz xs = []
    · rw [tz_nil h]
      by_cases q : 0 < x
      · rw [if_pos q, tz_nil (by rfl), if_pos q]
      · rw [if_neg q]; rfl
    · rw [tz_cons h, tz_cons (by rw [tz_tz xs]; exact h), tz_tz xs]
theorem side_tz {m : Int} {ms : List Int} (h : ∀ x ∈ ms, 0 ≤ x ∧ x < m) : SideOk m (tz ms) := ⟨fun x hx => h x (tz_mem hx), tz_tz ms⟩
theorem tail_tz {l : List Int} (hl : tz l = l) : tz l.tail = l.tail := by
  cases l with
  | nil => rfl
  | cons x xs =>
    by_cases h : tz xs = []
    · rw [tz_nil h] at hl
      by_cases q : 0 < x
      · rw [if_pos q] at hl; obtain ⟨_, e⟩ := List.cons.inj hl; subst e; rfl
      · rw [if_neg q] at hl; cases hl
    · rw [tz_cons h] at hl
      exact (List.cons.inj hl).2
/-! a tape machine's steps -/
def push (x : Int) (l : List Int) : List Int := if l = [] ∧ x = 0 then [] else x :: l
def popM : List Int → Int
  | [] => 0
  | x :: _ => x
theorem push_tz {x : Int} {l : List Int} (h0 : 0 ≤ x) (hl : tz l = l) : tz (x :: l) = push x l := by
  unfold push
  by_cases e : l = []
  · subst e
    rw [tz_nil rfl]
    by_cases q : x = 0
    · subst q; rfl
    · rw [if_pos (by omega), if_neg (fun z => q z.2)]
  · rw [tz_cons (by rw [hl]; exact e), hl, if_neg (fun z => e z.1)]
theorem push_side {m x : Int} {l : List Int} (h0 : 0 ≤ x) (h1 : x < m) (hl : SideOk m l) : SideOk m (push x l) := by
  rw [← push_tz h0 hl.2]
  exact side_tz fun y hy => by
    rcases List.mem_cons.mp hy with rfl | z
    · exact ⟨h0, h1⟩
    · exact hl.1 y z
theorem tail_side {m : Int} {l : List Int} (hl : SideOk m l) : SideOk m l.tail := ⟨fun x hx => hl.1 x (List.mem_of_mem_tail hx), tail_tz hl.2⟩
theorem pop_ok {m : Int} {l : List Int} (hm : 2 ≤ m) (hl : SideOk m l) : 0 ≤ popM l ∧ popM l < m := by
  cases l with
  | nil => exact ⟨Int.le_refl _, by show (0 : Int) < m; omega⟩
  | cons x xs => exact hl.1 x List.mem_cons_self
theorem push_len {x : Int} {l : List Int} : (push x l).length ≤ l.length + 1 := by
  unfold push; split
  · simp
  · simp
theorem rev_push {x : Int} {l : List Int} (h : ¬ (l = [] ∧ x = 0)) : (l.map D.int).reverse ++ [D.int x] = ((push x l).map D.int).reverse := by
  unfold push
  rw [if_neg h]
  simp
theorem rev_pop {x : Int} {xs : List Int} : (((x :: xs).map D.int).reverse).dropLast = (xs.map D.int).reverse := by
  rw [List.map_cons, List.reverse_cons, List.dropLast_concat]
theorem rev_last {x : Int} {xs : List Int} : (((x :: xs).map D.int).reverse)[(((x :: xs).map D.int).reverse).length - 1]? = some (.int x) := by
  rw [List.map_cons, List.reverse_cons, List.length_append, List.length_singleton, Nat.add_sub_cancel, List.getElem?_append_right (Nat.le_refl _), Nat.sub_self]; rfl
theorem dup_id {h : DH} {a : Addr} {o : DO} (e : h a = some o) : dup h a o = h := by
  funext b
  by_cases q : b = a
  · subst q; rw [dup_same, e]
  · rw [dup_ne q]
theorem dup_swap {h : DH} {a b : Addr} {o u : DO} (n : a ≠ b) : dup (dup h a o) b u = dup (dup h b u) a o := by
  funext c
  by_cases ca : c = a
  · subst ca; rw [dup_ne n, dup_same, dup_same]
  · by_cases cb : c = b
    · subst cb; rw [dup_same, dup_ne ca, dup_same]
    · rw [dup_ne cb, dup_ne ca, dup_ne ca, dup_ne cb]
/-- what was made first is forgotten -/
theorem sub_last {h : DH} {a b : Addr} {o u : DO} (fa : h a = none) (fb : dup h a o b = none) : Sub (dup h b u) (dup (dup h a o) b u) := by
  have n : a ≠ b := ne_fresh (dup_same (h := h) (o := o)) fb
  rw [dup_swap n]
  exact Sub.new (by rw [dup_ne n]; exact fa)
theorem free_of {h : DH} {a b : Addr} {o : DO} (fa : h a = none) (fb : dup h a o b = none) : h b = none := (Sub.new fa).fresh fb
theorem dup3 {h : DH} {a b : Addr} {o u v : DO} (n : a ≠ b) : dup (dup (dup h a o) b u) a v = dup (dup h a v) b u := by
  rw [dup_swap n, dup_dup, dup_swap (Ne.symm n)]
theorem cmulW {i j : Int} (h0 : 0 ≤ j) (h1 : j < 1152921504606846976) : CMul i j := .inr (by
  have : (2 : Int) ^ 64 = 18446744073709551616 := by decide
  omega)
theorem lc_map {p : Addr} {gd : DH → Prop} {i : Nat} {we : WE} {env : Ev} {h : DH} {Q : DH → Prop} {xs : List D} (f : Nat → D) (hl : xs.length < sizeLine) (hgd : ∀ l, gd (dup h p (.lst l)))
    (hs : ∀ (j : Nat) (x : D) (l : List D) (R : D → DH → Prop), xs[j]? = some x → R (f j) (dup h p (.lst l)) → we (env.set i (some x)) (dup h p (.lst l)) R (fun _ _ => False))
    (q : Q (dup h p (.lst ((List.range xs.length).map f)))) : lcW p gd i wYes we env Q xs (dup h p (.lst [])) := by
  refine lc_i (fun j hh => hh = dup h p (.lst ((List.range j).map f)) ∧ j ≤ xs.length) ?_ ?_ _ ⟨rfl, Nat.zero_le _⟩
  · rintro hh ⟨rfl, _⟩; exact q
  · rintro j x hh N2 hx ⟨rfl, hj⟩ hN2
    have hj' : j < xs.length := (List.getElem?_eq_some_iff.mp hx).1
    rw [zEYes, if_pos rfl]
    refine hs j x _ _ hx (lstQ_i dup_same ⟨?_, ?_⟩)
    · rw [List.length_map, List.length_range]; omega
    · rw [dup_dup]
      refine ⟨hgd _, hN2 _ ⟨?_, hj'⟩⟩
      rw [List.range_succ, List.map_append]; rfl
theorem sub_dup {h hh : DH} {p : Addr} {o : DO} (s : Sub h hh) (f : h p = none) : Sub h (dup hh p o) := fun a u e => by
  rw [dup_ne (ne_fresh e f)]; exact s a u e
theorem iswhole_int (T : Tx K mg) {h : DH} {Q : QD} {Qx : QX} {i : Int} (q : Q (.bl true) h) : W_is_whole T [.int i] h Q Qx := by
  walk_at "df"
  try simp
  walk_at "rt"
theorem iswhole_bl (T : Tx K mg) {h : DH} {Q : QD} {Qx : QX} {b : Bool} (q : Q (.bl false) h) : W_is_whole T [.bl b] h Q Qx := by
  walk_at "df"
  try simp
  walk_at "rt"
theorem iswhole_str (T : Tx K mg) {h : DH} {Q : QD} {Qx : QX} {b : Str} (q : Q (.bl false) h) : W_is_whole T [.str b] h Q Qx := by
  walk_at "df"
  try simp
  walk_at "rt"
theorem iswhole_tup (T : Tx K mg) {h : DH} {Q : QD} {Qx : QX} {b : List D} (q : Q (.bl false) h) : W_is_whole T [.tup b] h Q Qx := by
  walk_at "df"
  try simp
  walk_at "rt"
theorem iswhole_non (T : Tx K mg) {h : DH} {Q : QD} {Qx : QX} (q : Q (.bl false) h) : W_is_whole T [.non] h Q Qx := by
  walk_at "df"
  try simp
  walk_at "rt"
theorem isnum_int (T : Tx K mg) {h : DH} {Q : QD} {Qx : QX} {i a b : Int} (q : Q (.bl (decide (a ≤ i ∧ i ≤ b))) h) : W_is_number T [.int i, .int a, .int b] h Q Qx := by
  walk_at "df"
  refine iswhole_int T ?_
  walk_at "go"
  split
  · rename_i z
    rw [show decide (a ≤ i ∧ i ≤ b) = decide (i ≤ b) by simp [z]] at q
    walk_at "rt"
  · rename_i z
    rw [show decide (a ≤ i ∧ i ≤ b) = false by simp [z]] at q
    walk_at "rt"
theorem isnum_bl (T : Tx K mg) {h : DH} {Q : QD} {Qx : QX} {v : Bool} {a b : D} (q : Q (.bl false) h) : W_is_number T [.bl v, a, b] h Q Qx := by
  walk_at "df"
  refine iswhole_bl T ?_
  walk_at "go"
  walk_at "rt"
theorem isnum_str (T : Tx K mg) {h : DH} {Q : QD} {Qx : QX} {v : Str} {a b : D} (q : Q (.bl false) h) : W_is_number T [.str v, a, b] h Q Qx := by
  walk_at "df"
  refine iswhole_str T ?_
  walk_at "go"
  walk_at "rt"
theorem isnum_tup (T : Tx K mg) {h : DH} {Q : QD} {Qx : QX} {v : List D} {a b : D} (q : Q (.bl false) h) : W_is_number T [.tup v, a, b] h Q Qx := by
  walk_at "df"
  refine iswhole_tup T ?_
  walk_at "go"
  walk_at "rt"
theorem isnum_non (T : Tx K mg) {h : DH} {Q : QD} {Qx : QX} {a b : D} (q : Q (.bl false) h) : W_is_number T [.non, a, b] h Q Qx := by
  walk_at "df"
  refine iswhole_non T ?_
  walk_at "go"
  walk_at "rt"
local macro_rules | `(tactic| walk_at "call") => `(tactic| (with_reducible refine isnum_int _ ?_))
local macro_rules | `(tactic| walk_at "call") => `(tactic| (with_reducible refine isnum_bl _ ?_))
local macro_rules | `(tactic| walk_at "call") => `(tactic| (with_reducible refine isnum_str _ ?_))
local macro_rules | `(tactic| walk_at "call") => `(tactic| (with_reducible refine isnum_tup _ ?_))
local macro_rules | `(tactic| walk_at "call") => `(tactic| (with_reducible refine isnum_non _ ?_))
/-- a row of a table, and what makes it one of m marks and s states -/
abbrev Rw := Option (Int × Int × Int)
def rowD : Rw → D
  | none => .non
  | some (w, m, s) => .tup [.int w, .int m, .int s]
def RowOk (m s : Int) : Rw → Prop
  | none => True
  | some (w, v, t) => 0 ≤ w ∧ w < m ∧ (v = -1 ∨ v = 1) ∧ 0 ≤ t ∧ t < s
theorem mul_le20 {m s : Int} (h0 : 2 ≤ m) (h1 : m ≤ 16) (h2 : 1 ≤ s) (h3 : s ≤ 20) : 2 ≤ m * s ∧ m * s ≤ 320 := by
  refine ⟨Int.le_trans (by omega) (Int.mul_le_mul h0 h2 (by omega) (by omega)), Int.le_trans (Int.mul_le_mul h1 h3 (by omega) (by omega)) (by omega)⟩
theorem pair_at {z : Int} : ∃ d : Int, atI [D.int (-1), D.int 1] (z % 2) = some (.int d) ∧ (d = -1 ∨ d = 1) := by
  rcases (by omega : z % 2 = 0 ∨ z % 2 = 1) with e | e
  · rw [e]; exact ⟨-1, zAt0, .inl rfl⟩
  · rw [e]; exact ⟨1, zAt1, .inr rfl⟩
/-- a configuration -/
structure Cfg where
  st : Int
  l : List Int
  md : Int
  r : List Int
def Cfg.d (c : Cfg) : D := .tup [.int c.st, .tup (c.l.map D.int), .int c.md, .tup (c.r.map D.int)]
structure CfgOk (m s : Int) (c : Cfg) : Prop where
  st0 : 0 ≤ c.st
  st1 : c.st < s
  mk0 : 0 ≤ c.md
  mk1 : c.md < m
  l : SideOk m c.l
  r : SideOk m c.r
def Cfg.big (c : Cfg) (n : Nat) : Prop := c.l.length ≤ n ∧ c.r.length ≤ n
theorem isnum_yes (T : Tx K mg) {h : DH} {Q : QD} {Qx : QX} {v lo hi : Int} (a : lo ≤ v) (b : v ≤ hi) (q : Q (.bl true) h) : W_is_number T [.int v, .int lo, .int hi] h Q Qx :=
  isnum_int T (by rw [decide_eq_true ⟨a, b⟩]; exact q)
theorem isrow_ok (T : Tx K mg) {h : DH} {Q : QD} {Qx : QX} {m s : Int} {r : Int × Int × Int} (ok : RowOk m s (some r)) (q : Q (.bl true) h) : W_is_row T [rowD (some r), .int m, .int s] h Q Qx := by
  obtain ⟨w, v, t⟩ := r
  obtain ⟨o1, o2, o3, o4, o5⟩ := ok
  refine def_i rfl fun E hrt _ _ => ?_
  walk_at "en"
  refine seq_i fun N hN => ?_
  unfold rowD
  walk_at "ev"
  refine hN _ _ ?_
  refine seq_i fun N1 hN1 => ?_
  walk_at "ev"
  refine ⟨rfl, hN1 _ _ ?_⟩
  refine seq_i fun N2 hN2 => ?_
  walk_at "ev"
  refine isnum_yes T (by omega) (by omega) ?_
  walk_at "ev"
  rw [if_neg (by omega)]
  refine hN2 _ _ ?_
  walk_at "ev"
  refine isnum_yes T (by omega) (by omega) ?_
  walk_at "ev"
  exact isnum_yes T (by omega) (by omega) (hrt _ _ _ (.refl _) q)
theorem putD_hit {m : Str} {d e : D} {r : List (Str × D)} : putD m d ((m, e) :: r) = (m, d) :: r := by unfold putD; rw [if_pos rfl]
theorem putD_miss {m g : Str} {d e : D} {r : List (Str × D)} (n : g ≠ m) : putD m d ((g, e) :: r) = (g, e) :: putD m d r := by rw [putD, if_neg n]
theorem putD_nil {m : Str} {d : D} : putD m d [] = [(m, d)] := rfl
/-- a machine's fields -/
def tapeF (m s : Int) (rp : Addr) : List (Str × D) := [("marks", .int m), ("states", .int s), ("_rows", .ref rp)]
theorem init_ok (T : Tx K mg) {h : DH} {Q : QD} {Qx : QX} {m s : Int} {lp p : Addr} {rs : List Rw} (hm : 2 ≤ m) (hm' : m ≤ 16) (hs : 1 ≤ s) (hs' : s ≤ 4000) (hr : h lp = some (.lst (rs.map rowD))) (hl : rs.length = (m * s).toNat) (ok : ∀ r ∈ rs, RowOk m s r)
    (hp : h p = none) (q : ∀ rp h', h rp = none → rp ≠ p → h' = dup (dup h rp (.lst (rs.map rowD))) p (.ins T.C_Tape (tapeF m s rp)) → Q .non h') : W_Tapedd_initdd T [.ref p, .int m, .int s, .ref lp] (dup h p (.ins T.C_Tape [])) Q Qx := by
  have hms : 0 ≤ m * s := Int.mul_nonneg (by omega) (by omega)
  have nlp : lp ≠ p := by intro z; subst z; rw [hp] at hr; cases hr
  refine def_i rfl fun E hrt _ hnx => ?_
  walk_at "en"
  refine seq_i fun N hN => ?_
  walk_at "ev"
  refine isnum_yes T (by omega) (by omega) ?_
  walk_at "ev"
  refine hN _ _ ?_
  refine seq_i fun N1 hN1 => ?_
  walk_at "ev"
  refine isnum_yes T (by omega) (by omega) ?_
  walk_at "ev"
  refine hN1 _ _ ?_
  refine seq_i fun N2 hN2 => ?_
  walk_at "ev"
  simp only [dup_ne nlp, hr]
  walk_at "ev"
  refine ⟨cmulL (by omega) (by omega), ?_⟩
  rw [List.length_map, hl, if_neg (by rw [Int.toNat_of_nonneg hms]; simp)]
  refine hN2 _ _ ?_
  refine seq_i fun N3 hN3 => ?_
  walk_at "ev"
  simp only [dup_ne nlp, hr]
  walk_at "ev"
  refine for_ix (fun i env hh => ∃ o, env = [some (.ref p), some (.int m), some (.int s), some (.ref lp), o] ∧ hh = dup h p (.ins T.C_Tape [])) ?_ ?_ _ _ ⟨_, rfl, rfl⟩
  · rintro env hh ⟨o, rfl, rfl⟩
    refine hN3 _ _ ?_
    refine seq_i fun N4 hN4 => ?_
    walk_at "ev"
    refine ⟨p, _, _, rfl, dup_same, List.mem_singleton_self _, (by decide), hN4 _ _ ?_⟩
    refine seq_i fun N5 hN5 => ?_
    walk_at "ev"
    refine ⟨p, _, _, rfl, dup_same, List.mem_singleton_self _, (by show 1 < 1000; omega), hN5 _ _ ?_⟩
    walk_at "ev"
    rw [putD_nil, putD_miss (by decide), putD_nil, dup_dup, dup_dup, dup_ne nlp]
    simp only [hr]
    intro rp hrp
    have hpr : rp ≠ p := by
      intro z; subst z; rw [dup_same] at hrp; cases hrp
    rw [dup_ne hpr] at hrp
    refine ⟨p, _, _, rfl, (by rw [dup_ne (Ne.symm hpr)]; exact dup_same), List.mem_singleton_self _, (by show 2 < 1000; omega), hnx _ _ _ (.refl _) (q rp _ hrp hpr ?_)⟩
    rw [putD_miss (by decide), putD_miss (by decide), putD_nil]
    funext b
    by_cases b1 : b = p
    · subst b1; rw [dup_same, dup_same]; rfl
    · rw [dup_ne b1, dup_ne b1]
      by_cases b2 : b = rp
      · subst b2; rw [dup_same, dup_same]
      · rw [dup_ne b2, dup_ne b2, dup_ne b1]
  · rintro i x env hh N4 hx ⟨o, rfl, rfl⟩ hN4
    have gd : dup h p (.ins T.C_Tape []) lp = some (.lst (rs.map rowD)) := by rw [dup_ne nlp]; exact hr
    rw [List.getElem?_map] at hx
    obtain ⟨r, hr1, rfl⟩ := Option.map_eq_some_iff.mp hx
    have hok := ok r (List.mem_of_getElem? hr1)
    cases r with
    | none =>
      walk_at "ev"
      unfold rowD
      walk_at "ev"
      exact hN4 _ _ gd ⟨_, rfl, rfl⟩
    | some r =>
      walk_at "ev"
      have e1 : ∀ Q, gIs true (rowD (some r)) .non (dup h p (.ins T.C_Tape [])) Q = Q (.bl true) (dup h p (.ins T.C_Tape [])) := fun _ => rfl
      simp only [e1]
      walk_at "ev"
      refine isrow_ok T hok ?_
      walk_at "ev"
      exact hN4 _ _ gd ⟨_, rfl, rfl⟩
/-- a machine in the heap -/
def IsTape (T : Tx K mg) (h : DH) (p : Addr) (m s : Int) (rs : List Rw) : Prop := ∃ rp, h p = some (.ins T.C_Tape (tapeF m s rp)) ∧ h rp = some (.lst (rs.map rowD))
theorem IsTape.sub {T : Tx K mg} {h h' : DH} {p : Addr} {m s : Int} {rs : List Rw} (a : IsTape T h p m s rs) (b : DL.Sub h h') : IsTape T h' p m s rs := by
  obtain ⟨rp, e1, e2⟩ := a
  exact ⟨rp, b _ _ e1, b _ _ e2⟩
theorem tape_marks {m s : Int} {rp : Addr} : List.lookup ("marks" : Str) (tapeF m s rp) = some (.int m) := by rfl
theorem tape_states {m s : Int} {rp : Addr} : List.lookup ("states" : Str) (tapeF m s rp) = some (.int s) := by rfl
theorem tape_rows {m s : Int} {rp : Addr} : List.lookup ("_rows" : Str) (tapeF m s rp) = some (.ref rp) := by rfl
theorem tape_cls {T : Tx K mg} {h : DH} {p rp : Addr} {m s : Int} (e : h p = some (.ins T.C_Tape (tapeF m s rp))) : ∀ a C fs, D.ref p = .ref a → h a = some (.ins C fs) → C ∈ [T.C_Tape] := by
  intro a C fs ea ec
  cases ea
  rw [e] at ec
  cases ec
  exact List.mem_singleton_self _
theorem tape_ins {T : Tx K mg} {h : DH} {p : Addr} {m s : Int} {rs : List Rw} {x : Str} (a : IsTape T h p m s rs) (l : ∀ rp, List.lookup x (tapeF m s rp) = none) : insQ h (.ref p) T.C_Tape x := by
  obtain ⟨rp, e1, _⟩ := a
  exact ⟨p, _, rfl, e1, l rp⟩
def stepZ (w v t : Int) (c : Cfg) : Cfg := if v = 1 then ⟨t, push w c.l, popM c.r, c.r.tail⟩ else ⟨t, c.l.tail, popM c.l, push w c.r⟩
def rowAt (m : Int) (rs : List Rw) (c : Cfg) : Rw := (rs[(c.st * m + c.md).toNat]?).getD none
def runZ (m : Int) (rs : List Rw) : Nat → Cfg → Cfg × Nat
  | 0, c => (c, 0)
  | n + 1, c => match rowAt m rs c with
    | none => (c, 0)
    | some (w, v, t) => ((runZ m rs n (stepZ w v t c)).1, (runZ m rs n (stepZ w v t c)).2 + 1)
theorem run_stop {m : Int} {rs : List Rw} {c : Cfg} (e : rowAt m rs c = none) : ∀ n, runZ m rs n c = (c, 0)
  | 0 => rfl
  | n + 1 => by rw [runZ, e]
theorem run_go {m : Int} {rs : List Rw} {c : Cfg} {w v t : Int} {n : Nat} (e : rowAt m rs c = some (w, v, t)) : runZ m rs (n + 1) c = ((runZ m rs n (stepZ w v t c)).1, (runZ m rs n (stepZ w v t c)).2 + 1) := by
  rw [runZ, e]
theorem run_join {m : Int} {rs : List Rw} : ∀ (a b : Nat) (c : Cfg), runZ m rs (a + b) c = ((runZ m rs b (runZ m rs a c).1).1, (runZ m rs a c).2 + (runZ m rs b (runZ m rs a c).1).2)
  | 0, b, c => by rw [Nat.zero_add]; show _ = (_, 0 + _); rw [Nat.zero_add]; rfl
  | a + 1, b, c => by
    cases e : rowAt m rs c with
    | none => rw [run_stop e, run_stop e]; show (c, 0) = ((runZ m rs b c).1, 0 + (runZ m rs b c).2); rw [run_stop e]; rfl
    | some r =>
      obtain ⟨w, v, t⟩ := r
      rw [show a + 1 + b = (a + b) + 1 by omega, run_go e, run_go e, run_join a b]
      exact congrArg (Prod.mk _) (Nat.add_right_comm _ _ _)
/-- the place of a row -/
theorem place_ok {m s : Int} {c : Cfg} (hm : 2 ≤ m) (ok : CfgOk m s c) : 0 ≤ c.st * m + c.md ∧ c.st * m + c.md < m * s := by
  have h1 : 0 ≤ c.st * m := Int.mul_nonneg ok.st0 (by omega)
  have h2 : (c.st + 1) * m ≤ s * m := Int.mul_le_mul_of_nonneg_right (by have := ok.st1; omega) (by omega)
  have h3 : (c.st + 1) * m = c.st * m + m := by rw [Int.add_mul, Int.one_mul]
  have h4 := ok.mk0
  have h5 := ok.mk1
  have h6 : m * s = s * m := Int.mul_comm _ _
  omega
theorem row_get {m s : Int} {rs : List Rw} {c : Cfg} (hm : 2 ≤ m) (hl : rs.length = (m * s).toNat) (ok : CfgOk m s c) : atI (rs.map rowD) (c.st * m + c.md) = some (rowD (rowAt m rs c)) := by
  obtain ⟨h1, h2⟩ := place_ok hm ok
  obtain ⟨n, e⟩ := Int.eq_ofNat_of_zero_le h1
  unfold rowAt
  rw [e, Int.toNat_natCast, atN, List.getElem?_map]
  have hn : n < rs.length := by omega
  rw [List.getElem?_eq_getElem hn]; rfl
theorem row_ok {m s : Int} {rs : List Rw} {c : Cfg} (hr : ∀ r ∈ rs, RowOk m s r) : RowOk m s (rowAt m rs c) := by
  unfold rowAt
  cases e : rs[(c.st * m + c.md).toNat]? with
  | none => trivial
  | some r => exact hr r (List.mem_of_getElem? e)
theorem step_cfg {m s w v t : Int} {c : Cfg} (hm : 2 ≤ m) (ok : CfgOk m s c) (r : RowOk m s (some (w, v, t))) : CfgOk m s (stepZ w v t c) := by
  obtain ⟨r1, r2, r3, r4, r5⟩ := r
  unfold stepZ
  split
  · exact ⟨r4, r5, (pop_ok hm ok.r).1, (pop_ok hm ok.r).2, push_side r1 r2 ok.l, tail_side ok.r⟩
  · exact ⟨r4, r5, (pop_ok hm ok.l).1, (pop_ok hm ok.l).2, tail_side ok.l, push_side r1 r2 ok.r⟩
theorem step_big {w v t : Int} {c : Cfg} {n : Nat} (h : c.big n) : (stepZ w v t c).big (n + 1) := by
  obtain ⟨h1, h2⟩ := h
  have p1 := push_len (x := w) (l := c.l)
  have p2 := push_len (x := w) (l := c.r)
  unfold stepZ Cfg.big
  split
  · exact ⟨by show (push w c.l).length ≤ _; omega, by show c.r.tail.length ≤ _; rw [List.length_tail]; omega⟩
  · exact ⟨by show c.l.tail.length ≤ _; rw [List.length_tail]; omega, by show (push w c.r).length ≤ _; omega⟩
theorem run_cfg {m s : Int} {rs : List Rw} (hm : 2 ≤ m) (hr : ∀ r ∈ rs, RowOk m s r) : ∀ (n : Nat) (c : Cfg), CfgOk m s c → CfgOk m s (runZ m rs n c).1
  | 0, c, ok => ok
  | n + 1, c, ok => by
    cases e : rowAt m rs c with
    | none => rw [run_stop e]; exact ok
    | some r =>
      obtain ⟨w, v, t⟩ := r
      rw [run_go e]
      exact run_cfg hm hr n _ (step_cfg hm ok (e ▸ row_ok (c := c) hr))
theorem run_big {m : Int} {rs : List Rw} : ∀ (n : Nat) (c : Cfg) (b : Nat), c.big b → (runZ m rs n c).1.big (b + n)
  | 0, c, b, h => h
  | n + 1, c, b, h => by
    cases e : rowAt m rs c with
    | none => rw [run_stop e]; exact ⟨by have := h.1; show c.l.length ≤ _; omega, by have := h.2; show c.r.length ≤ _; omega⟩
    | some r =>
      obtain ⟨w, v, t⟩ := r
      rw [run_go e, show b + (n + 1) = (b + 1) + n by omega]
      exact run_big n _ _ (step_big h)
theorem run_le {m : Int} {rs : List Rw} : ∀ (n : Nat) (c : Cfg), (runZ m rs n c).2 ≤ n
  | 0, c => Nat.le_refl _
  | n + 1, c => by
    cases e : rowAt m rs c with
    | none => rw [run_stop e]; exact Nat.zero_le _
    | some r =>
      obtain ⟨w, v, t⟩ := r
      rw [run_go e]
      have := run_le (m := m) (rs := rs) n (stepZ w v t c)
      show _ + 1 ≤ _
      omega
theorem tape_make (T : Tx K mg) {h : DH} {Q : QD} {Qx : QX} {lp : Addr} {m s : Int} {rs : List Rw} (hm : 2 ≤ m) (hm' : m ≤ 16) (hs : 1 ≤ s) (hs' : s ≤ 4000) (hr : h lp = some (.lst (rs.map rowD))) (hl : rs.length = (m * s).toNat) (ok : ∀ r ∈ rs, RowOk m s r)
    (q : ∀ p h', Sub h h' → h p = none → IsTape T h' p m s rs → Q (.ref p) h') : Make T.C_Tape (W_Tapedd_initdd T) [.int m, .int s, .ref lp] h Q Qx := by
  intro p f
  refine init_ok T hm hm' hs hs' hr hl ok f fun ip h' fi nip eh => ⟨rfl, ?_⟩
  subst eh
  exact q p _ (fun a o ea => by rw [dup_ne (ne_fresh ea f), dup_ne (ne_fresh ea fi)]; exact ea) f ⟨ip, dup_same, by rw [dup_ne nip, dup_same]⟩
theorem tape_makeN (T : Tx K mg) {h : DH} {Q : QD} {Qx : QX} {lp : Addr} {m s : Int} {rs : List Rw} (hm : 2 ≤ m) (hm' : m ≤ 16) (hs : 1 ≤ s) (hs' : s ≤ 4000) (hr : h lp = some (.lst (rs.map rowD))) (hl : rs.length = (m * s).toNat) (ok : ∀ r ∈ rs, RowOk m s r)
    (q : ∀ p h' hN, Sub h h' → h p = none → IsTape T hN p m s rs → Prv hN h' → Dis h hN → Q (.ref p) h') : Make T.C_Tape (W_Tapedd_initdd T) [.int m, .int s, .ref lp] h Q Qx := by
  intro p f
  refine init_ok T hm hm' hs hs' hr hl ok f fun ip h' fi nip eh => ⟨rfl, ?_⟩
  subst eh
  exact q p _ _ (fun a o ea => by rw [dup_ne (ne_fresh ea f), dup_ne (ne_fresh ea fi)]; exact ea) f ⟨ip, two2_a, two2_c nip⟩ (two2_prv dup_same (by rw [dup_ne nip, dup_same])) (two2_dis f fi)
theorem taperow_ok (T : Tx K mg) {h : DH} {Q : QD} {Qx : QX} {p : Addr} {m s st md : Int} {rs : List Rw} {r : Rw} (it : IsTape T h p m s rs) (hm : 2 ≤ m) (hm' : m ≤ 16) (a0 : 0 ≤ st) (a1 : st < s) (b0 : 0 ≤ md) (b1 : md < m)
    (er : atI (rs.map rowD) (st * m + md) = some (rowD r)) (q : Q (rowD r) h) : W_Tape_row T [.ref p, .int st, .int md] h Q Qx := by
  obtain ⟨rp, i1, i2⟩ := it
  refine def_i rfl fun E hrt _ _ => ?_
  walk_at "en"
  refine seq_i fun N hN => ?_
  walk_at "ev"
  simp only [i1, tape_states, tape_marks, tape_rows]
  refine ⟨isnum_yes T (by omega) (by omega) ?_, tape_cls i1⟩
  walk_at "ev"
  refine hN _ _ ?_
  refine seq_i fun N1 hN1 => ?_
  walk_at "ev"
  simp only [i1, tape_states, tape_marks, tape_rows]
  refine ⟨isnum_yes T (by omega) (by omega) ?_, tape_cls i1⟩
  walk_at "ev"
  refine hN1 _ _ ?_
  walk_at "ev"
  simp only [i1, tape_states, tape_marks, tape_rows]
  walk_at "ev"
  simp only [i2, er]
  walk_at "ev"
  exact ⟨⟨⟨cmulR (by omega) (by omega), hrt _ _ _ (.refl _) q⟩, tape_cls i1⟩, tape_cls i1⟩
theorem arenum_ok (T : Tx K mg) {h : DH} {Q : QD} {Qx : QX} {lo hi : Int} {ms : List Int} (hl : ms.length ≤ 1000000) (hm : ∀ x ∈ ms, lo ≤ x ∧ x ≤ hi) (q : Q (.bl true) h) : W_are_numbers T [.tup (ms.map D.int), .int lo, .int hi] h Q Qx := by
  refine def_i rfl fun E hrt _ _ => ?_
  walk_at "en"
  refine seq_i fun N hN => ?_
  walk_at "ev"
  refine hN _ _ ?_
  walk_at "ev"
  intro p hp
  refine lc_i (fun j hh => hh = dup h p (.lst ((List.replicate j true).map D.bl))) ?_ ?_ _ rfl
  · rintro hh rfl
    walk_at "ev"
    rw [blsOf_map]
    have ea : (List.replicate (ms.map D.int).length true).all id = true := by simp
    dsimp only
    rw [ea]
    exact hrt _ _ _ (Sub.new hp) q
  · rintro j x hh N2 hx rfl hN2
    rw [List.getElem?_map] at hx
    obtain ⟨z, hz, rfl⟩ := Option.map_eq_some_iff.mp hx
    have hb := hm z (List.mem_of_getElem? hz)
    have hj : j < ms.length := (List.getElem?_eq_some_iff.mp hz).1
    walk_at "ev"
    refine isnum_yes T hb.1 hb.2 ?_
    walk_at "ev"
    refine ⟨?_, hN2 _ ?_⟩
    · rw [List.length_map, List.length_replicate]; show j < 16777216; omega
    · rw [dup_dup, List.replicate_succ', List.map_append]; rfl
local macro_rules | `(tactic| walk_at "wcall") => `(tactic| ((with_reducible refine isnum_yes _ ?g1 ?g2 ?g3); (case g1 => omega); (case g2 => omega)))
/-! the cells of a script, its digits -/
theorem qat_int {L : List D} {z : Int} {h : DH} {R : QD} (hL : ∀ d ∈ L, ∃ c, d = D.int c) (h0 : 0 ≤ z) (h1 : z < (L.length : Nat)) (q : ∀ c, D.int c ∈ L → R (.int c) h) : QAt h R (atI L z) := by
  have e : atI L z = some L[z.toNat] := by rw [atI_lt h0, List.getElem?_eq_getElem (by omega)]
  rw [e]
  obtain ⟨c, hc⟩ := hL _ (List.getElem_mem (by omega : z.toNat < L.length))
  show R _ h
  rw [hc]
  exact q c (hc ▸ List.getElem_mem _)
theorem ints_all {ns : List Int} : ∀ d ∈ ns.map D.int, ∃ c, d = D.int c := fun d hd => by
  obtain ⟨c, _, e⟩ := List.mem_map.mp hd
  exact ⟨c, e.symm⟩
theorem lawcell_ok (T : Tx K mg) {h : DH} {Q : QD} {Qx : QX} {ns : List Int} {k : Int} (hk : 0 ≤ k) (q : ∀ c, Q (.int c) h) : W_law_cell T [.sl (ns.map D.int), .int k] h Q Qx := by
  walk_at "wf"
  split
  · rename_i z
    refine qat_int ints_all hk (by rw [List.length_map]; exact z) fun c _ => ?_
    walk_at "wrt"
    exact q _
  · walk_at "w"
    walk_at "wrt"
    exact q _
local macro_rules | `(tactic| walk_at "wcall") => `(tactic| ((with_reducible refine lawcell_ok _ ?g1 ?g2); (case g1 => omega)))
theorem lawmixed_ok (T : Tx K mg) {h : DH} {Q : QD} {Qx : QX} {c k : Int} (q : ∀ c, Q (.int c) h) : W_law_mixed T [.int c, .int k] h Q Qx := by
  walk_at "wf"
  walk_at "wrt"
  exact q _
local macro_rules | `(tactic| walk_at "wcall") => `(tactic| (with_reducible refine lawmixed_ok _ ?_))
def DsIn (m : Int) (ds : List Int) : Prop := ∀ d ∈ ds, 0 ≤ d ∧ d < m
theorem DsIn.nil {m : Int} : DsIn m [] := fun _ h => nomatch h
theorem DsIn.snoc {m z : Int} {ds : List Int} (h : DsIn m ds) (hm : 0 < m) : DsIn m (ds ++ [z % m]) := fun d hd => by
  rcases List.mem_append.mp hd with q | q
  · exact h d q
  · rw [List.mem_singleton.mp q]; exact ⟨Int.emod_nonneg _ (by omega), Int.emod_lt_of_pos _ hm⟩
theorem lawdigits_ok (T : Tx K mg) {h : DH} {Q : QD} {Qx : QX} {c n m : Int} (hn : 0 ≤ n) (hn2 : n ≤ 1000) (hm : 0 < m) (hm2 : m < 1073741824)
    (q : ∀ p ds h', h p = none → Sub h h' → h' p = some (.lst (List.map D.int ds)) → ds.length = n.toNat → DsIn m ds → Q (.ref p) h') : W_law_digits T [.int c, .int n, .int m] h Q Qx := by
  walk_at "wf"
  rename Addr => p
  rename DH => h1
  rename h p = none => fp
  rename h1 p = _ => e1
  split
  · walk_at "w"
    refine for_uB h [4] (fun i vs hh => ∃ ds o, vs = [o] ∧ hh p = some (.lst (List.map D.int ds)) ∧ ds.length = i ∧ DsIn m ds) [none] (by walk_at "ws") rfl ⟨[], none, rfl, e1, rfl, DsIn.nil⟩ ?_ ?_
    · rintro i vs hh N2 hi sb ⟨ds, o, rfl, a1, a2, a3⟩ hN2
      walk_at "w"
      rename Int => z
      refine hN2 [_] _ _ ⟨ds ++ [z % m], _, rfl, ?_, by rw [List.length_append, a2]; rfl, a3.snoc hm⟩ rfl (sub_dup0 sb fp)
      rw [dup_same, List.map_append]; rfl
    · rintro vs hh sb ⟨ds, o, rfl, a1, a2, a3⟩
      walk_at "w"
      walk_at "wrt"
      exact q p ds _ fp sb a1 a2 a3
  · walk_at "w"
    refine for_uB h [0, 4] (fun i vs hh => ∃ ds c o, vs = [some (.int c), o] ∧ hh p = some (.lst (List.map D.int ds)) ∧ ds.length = i ∧ DsIn m ds) [some (.int c), none] (by walk_at "ws") rfl ⟨[], c, none, rfl, e1, rfl, DsIn.nil⟩ ?_ ?_
    · rintro i vs hh N2 hi sb ⟨ds, c, o, rfl, a1, a2, a3⟩ hN2
      walk_at "w"
      refine hN2 [_, _] _ _ ⟨ds ++ [c % m], _, _, rfl, ?_, by rw [List.length_append, a2]; rfl, a3.snoc hm⟩ rfl (sub_dup0 sb fp)
      rw [dup_same, List.map_append]; rfl
    · rintro vs hh sb ⟨ds, c, o, rfl, a1, a2, a3⟩
      walk_at "w"
      walk_at "wrt"
      exact q p ds _ fp sb a1 a2 a3
theorem DsIn.at {m : Int} {ds : List Int} (h : DsIn m ds) {c : Int} (hc : D.int c ∈ ds.map D.int) : 0 ≤ c ∧ c < m := by
  obtain ⟨x, hx, e⟩ := List.mem_map.mp hc
  cases e
  exact h _ hx
/-! bits of marks -/
def wd (m : Int) : Nat := if m ≤ 2 then 1 else if m ≤ 4 then 2 else if m ≤ 8 then 3 else 4
theorem wd_cases {m : Int} (h0 : 2 ≤ m) (h1 : m ≤ 16) : (wd m = 1 ∧ m = 2) ∨ (wd m = 2 ∧ 3 ≤ m ∧ m ≤ 4) ∨ (wd m = 3 ∧ 5 ≤ m ∧ m ≤ 8) ∨ (wd m = 4 ∧ 9 ≤ m ∧ m ≤ 16) := by
  unfold wd
  split
  · omega
  · split
    · omega
    · split <;> omega
def blk (n : Nat) (x : Int) : List Int := (List.range n).map fun j => x / 2 ^ (n - 1 - j) % 2
def vB (bs : List Int) : Int := bs.foldl (fun a b => 2 * a + b) 0
theorem vB_nil : vB [] = 0 := rfl
theorem vB_snoc {l : List Int} {b : Int} : vB (l ++ [b]) = 2 * vB l + b := by unfold vB; rw [List.foldl_append]; rfl
theorem blk_len {n : Nat} {x : Int} : (blk n x).length = n := by unfold blk; rw [List.length_map, List.length_range]
theorem blk_bit {n : Nat} {x : Int} : ∀ b ∈ blk n x, b = 0 ∨ b = 1 := fun b hb => by
  obtain ⟨j, _, rfl⟩ := List.mem_map.mp hb
  generalize x / 2 ^ (n - 1 - j) = z
  show z % 2 = 0 ∨ z % 2 = 1
  omega
theorem blk_zero {x : Int} : blk 0 x = [] := rfl
theorem blk_snoc {n : Nat} {x : Int} : blk (n + 1) x = blk n (x / 2) ++ [x % 2] := by
  unfold blk
  rw [List.range_succ, List.map_append]
  congr 1
  · refine List.map_congr_left fun j hj => ?_
    have hj := List.mem_range.mp hj
    rw [show n + 1 - 1 - j = (n - 1 - j) + 1 by omega, Int.pow_succ, Int.mul_comm, ← Int.ediv_ediv_of_nonneg (by decide)]
  · show [x / 2 ^ (n + 1 - 1 - n) % 2] = [x % 2]
    rw [show n + 1 - 1 - n = 0 by omega]; simp
theorem blk_cons {n : Nat} {x : Int} : blk (n + 1) x = (x / 2 ^ n % 2) :: blk n x := by
  unfold blk
  rw [List.range_succ_eq_map, List.map_cons, List.map_map]
  rw [show n + 1 - 1 - 0 = n by omega]
  refine congrArg _ (List.map_congr_left fun j hj => ?_)
  have hj := List.mem_range.mp hj
  show x / 2 ^ (n + 1 - 1 - (j + 1)) % 2 = _
  rw [show n + 1 - 1 - (j + 1) = n - 1 - j by omega]
theorem snoc_ind {P : List Int → Prop} (h0 : P []) (h1 : ∀ l b, P l → P (l ++ [b])) (l : List Int) : P l := by
  have : ∀ r : List Int, P r.reverse := fun r => by
    induction r with
    | nil => exact h0
    | cons a r ih => rw [List.reverse_cons]; exact h1 _ _ ih
  have z := this l.reverse
  rwa [List.reverse_reverse] at z
theorem vB_blk {n : Nat} {x : Int} (h0 : 0 ≤ x) (h1 : x < 2 ^ n) : vB (blk n x) = x := by
  induction n generalizing x with
  | zero => have : x < 1 := h1; show (0 : Int) = x; omega
  | succ n ih =>
    rw [Int.pow_succ] at h1
    rw [blk_snoc, vB_snoc, ih (by omega) (by omega)]
    omega
theorem blk_vB (bs : List Int) : (∀ b ∈ bs, b = 0 ∨ b = 1) → blk bs.length (vB bs) = bs ∧ 0 ≤ vB bs ∧ vB bs < 2 ^ bs.length := by
  refine snoc_ind (P := fun bs => (∀ b ∈ bs, b = 0 ∨ b = 1) → blk bs.length (vB bs) = bs ∧ 0 ≤ vB bs ∧ vB bs < 2 ^ bs.length) (fun _ => ⟨rfl, Int.le_refl _, by decide⟩) (fun l b ih hb => ?_) bs
  obtain ⟨e, v0, v1⟩ := ih fun x hx => hb x (List.mem_append_left _ hx)
  have b01 := hb b (List.mem_append_right _ List.mem_cons_self)
  rw [List.length_append, List.length_singleton, vB_snoc, Int.pow_succ]
  refine ⟨?_, by omega, by omega⟩
  rw [blk_snoc, show (2 * vB l + b) / 2 = vB l by omega, show (2 * vB l + b) % 2 = b by omega, e]
/-! the rows of the machine with two marks -/
def rdI (S st : Int) (n : Nat) (v : Int) : Int := S * (2 ^ n - 1) + st * 2 ^ n + v
def wrI (S : Int) (W : Nat) (t s : Int) (n : Nat) (v : Int) : Int := rdI S 0 W 0 + 2 * S * (2 ^ n - 2) + (2 * t + s) * 2 ^ n + v
def goI (S : Int) (W : Nat) (t s : Int) (k : Int) : Int := wrI S W 0 0 W 0 + 2 * S * (k - 1) + 2 * t + s
def rowOf (m : Int) (rs : List Rw) (st k : Int) : Rw := (rs[(st * m + k).toNat]?).getD none
def readRow (S : Int) (W : Nat) (m : Int) (rs : List Rw) (st : Int) (n : Nat) (v b : Int) : Rw :=
  if n < W - 1 then some (b, 1, rdI S st (n + 1) (2 * v + b)) else
  match (if 2 * v + b < m then rowOf m rs st (2 * v + b) else none) with
  | none => none
  | some (w, d, t) => if W = 1 then some (w, d, t) else some (w % 2, -1, wrI S W t (if d = 1 then 1 else 0) (W - 1) (w / 2))
def writeRow (S : Int) (W : Nat) (st s : Int) (n : Nat) (v : Int) : Rw := if 1 < n then some (v % 2, -1, wrI S W st s (n - 1) (v / 2)) else some (v, 2 * s - 1, goI S W st s ((W - 1 : Nat) : Int))
def goRow (S : Int) (W : Nat) (st s : Int) (k : Nat) (b : Int) : Rw := if 1 < k then some (b, 2 * s - 1, goI S W st s ((k - 1 : Nat) : Int)) else some (b, 2 * s - 1, st)
def readRows (S : Nat) (W : Nat) (m : Int) (rs : List Rw) : List Rw :=
  (List.range W).flatMap fun n => (List.range S).flatMap fun st => (List.range (2 ^ n)).flatMap fun v => (List.range 2).flatMap fun b => [readRow (S : Nat) W m rs (st : Nat) n (v : Nat) (b : Nat)]
def writeRows (S : Nat) (W : Nat) : List Rw :=
  (List.range (W - 1)).flatMap fun i => (List.range S).flatMap fun st => (List.range 2).flatMap fun s => (List.range (2 ^ (i + 1))).flatMap fun v => (List.range 2).flatMap fun _ => [writeRow (S : Nat) W (st : Nat) (s : Nat) (i + 1) (v : Nat)]
def goRows (S : Nat) (W : Nat) : List Rw :=
  (List.range (W - 1)).flatMap fun i => (List.range S).flatMap fun st => (List.range 2).flatMap fun s => (List.range 2).flatMap fun b => [goRow (S : Nat) W (st : Nat) (s : Nat) (i + 1) (b : Nat)]
def loS (S : Nat) (W : Nat) : Nat := S * (3 * 2 ^ W + 2 * W - 7)
theorem fm_len {α : Type} {f : Nat → List α} {k n : Nat} (h : ∀ i, i < n → (f i).length = k) : ((List.range n).flatMap f).length = n * k := by
  induction n with
  | zero => rw [Nat.zero_mul]; rfl
  | succ n ih =>
    rw [List.range_succ, List.flatMap_append, List.length_append, ih fun i hi => h i (by omega), List.flatMap_singleton, h n (by omega), Nat.succ_mul]
theorem read_len {S W : Nat} {m : Int} {rs : List Rw} (h0 : 1 ≤ W) (h1 : W ≤ 4) : (readRows S W m rs).length = 2 * S * (2 ^ W - 1) := by
  have inner : ∀ n, ((List.range S).flatMap fun st => (List.range (2 ^ n)).flatMap fun v => (List.range 2).flatMap fun b => [readRow (S : Nat) W m rs (st : Nat) n (v : Nat) (b : Nat)]).length = S * (2 ^ n * (2 * 1)) := fun n => fm_len fun i _ => fm_len fun j _ => fm_len fun _ _ => rfl
  have e : ∀ n, ((List.range n).flatMap fun n => (List.range S).flatMap fun st => (List.range (2 ^ n)).flatMap fun v => (List.range 2).flatMap fun b => [readRow (S : Nat) W m rs (st : Nat) n (v : Nat) (b : Nat)]).length = 2 * S * (2 ^ n - 1) := fun n => by
    induction n with
    | zero => rfl
    | succ n ih =>
      rw [List.range_succ (n := n), List.flatMap_append, List.length_append, ih, List.flatMap_singleton, inner, Nat.pow_succ]
      have p0 : 0 < 2 ^ n := Nat.two_pow_pos n
      generalize 2 ^ n = P at p0
      obtain ⟨P, rfl⟩ : ∃ R, P = R + 1 := ⟨P - 1, by omega⟩
      rw [show P + 1 - 1 = P by omega, show (P + 1) * 2 - 1 = 2 * P + 1 by omega, Nat.mul_add, Nat.mul_one]
      have : S * ((P + 1) * 2) = 2 * (S * P) + 2 * S := by rw [Nat.add_mul, Nat.mul_add, Nat.mul_comm P 2, ← Nat.mul_assoc, Nat.mul_comm S 2, Nat.mul_assoc]
      have e1 : 2 * S * (2 * P) = 2 * (2 * (S * P)) := by rw [Nat.mul_assoc, Nat.mul_left_comm S 2 P]
      have e2 : 2 * S * P = 2 * (S * P) := Nat.mul_assoc _ _ _
      omega
  exact e W
theorem write_len {S W : Nat} : (writeRows S W).length = 8 * S * (2 ^ (W - 1) - 1) := by
  have inner : ∀ i, ((List.range S).flatMap fun st => (List.range 2).flatMap fun s => (List.range (2 ^ (i + 1))).flatMap fun v => (List.range 2).flatMap fun _ => [writeRow (S : Nat) W (st : Nat) (s : Nat) (i + 1) (v : Nat)]).length = S * (2 * (2 ^ (i + 1) * (2 * 1))) := fun i => fm_len fun _ _ => fm_len fun _ _ => fm_len fun _ _ => fm_len fun _ _ => rfl
  have e : ∀ n, ((List.range n).flatMap fun i => (List.range S).flatMap fun st => (List.range 2).flatMap fun s => (List.range (2 ^ (i + 1))).flatMap fun v => (List.range 2).flatMap fun _ => [writeRow (S : Nat) W (st : Nat) (s : Nat) (i + 1) (v : Nat)]).length = 8 * S * (2 ^ n - 1) := fun n => by
    induction n with
    | zero => rfl
    | succ n ih =>
      rw [List.range_succ (n := n), List.flatMap_append, List.length_append, ih, List.flatMap_singleton, inner, Nat.pow_succ]
      have p0 : 0 < 2 ^ n := Nat.two_pow_pos n
      generalize 2 ^ n = P at p0
      obtain ⟨P, rfl⟩ : ∃ R, P = R + 1 := ⟨P - 1, by omega⟩
      rw [show P + 1 - 1 = P by omega, show (P + 1) * 2 - 1 = 2 * P + 1 by omega, show 2 * ((P + 1) * 2 * (2 * 1)) = 8 * P + 8 by omega]
      have e0 : S * (8 * P + 8) = 8 * (S * P) + 8 * S := by rw [Nat.mul_add, Nat.mul_left_comm, Nat.mul_comm S 8]
      have e1 : 8 * S * (2 * P + 1) = 2 * (8 * (S * P)) + 8 * S := by rw [Nat.mul_add, Nat.mul_one, Nat.mul_assoc, Nat.mul_left_comm S 2 P, Nat.mul_left_comm 8 2]
      have e2 : 8 * S * P = 8 * (S * P) := Nat.mul_assoc _ _ _
      omega
  exact e (W - 1)
theorem go_len {S W : Nat} : (goRows S W).length = (W - 1) * (S * (2 * (2 * 1))) := fm_len fun i _ => fm_len fun _ _ => fm_len fun _ _ => fm_len fun _ _ => rfl
theorem loS_is {S W : Nat} (h0 : 1 ≤ W) (h1 : W ≤ 4) : (W = 1 ∧ loS S W = S) ∨ (W = 2 ∧ loS S W = S * 9) ∨ (W = 3 ∧ loS S W = S * 23) ∨ (W = 4 ∧ loS S W = S * 49) := by
  rcases (by omega : W = 1 ∨ W = 2 ∨ W = 3 ∨ W = 4) with rfl | rfl | rfl | rfl
  · exact .inl ⟨rfl, Nat.mul_one S⟩
  · exact .inr (.inl ⟨rfl, rfl⟩)
  · exact .inr (.inr (.inl ⟨rfl, rfl⟩))
  · exact .inr (.inr (.inr ⟨rfl, rfl⟩))
def lowRows (S W : Nat) (m : Int) (rs : List Rw) : List Rw := readRows S W m rs ++ writeRows S W ++ goRows S W
theorem low_len {S W : Nat} {m : Int} {rs : List Rw} (h0 : 1 ≤ W) (h1 : W ≤ 4) : (lowRows S W m rs).length = 2 * loS S W := by
  unfold lowRows
  rw [List.length_append, List.length_append, read_len h0 h1, write_len, go_len]
  rcases loS_is (S := S) h0 h1 with ⟨rfl, e⟩ | ⟨rfl, e⟩ | ⟨rfl, e⟩ | ⟨rfl, e⟩ <;> (rw [e]; simp only [Nat.reducePow, Nat.reduceSub, Nat.reduceMul]; omega)
/-- where the states are -/
theorem rdI_in {S W n : Nat} {st v : Int} (h0 : 1 ≤ W) (h1 : W ≤ 4) (hn : n < W) (s0 : 0 ≤ st) (s1 : st < (S : Nat)) (v0 : 0 ≤ v) (v1 : v < 2 ^ n) : 0 ≤ rdI (S : Nat) st n v ∧ rdI (S : Nat) st n v < (loS S W : Nat) := by
  unfold rdI
  rcases (by omega : n = 0 ∨ n = 1 ∨ n = 2 ∨ n = 3) with rfl | rfl | rfl | rfl <;> rcases loS_is (S := S) h0 h1 with ⟨rfl, e⟩ | ⟨rfl, e⟩ | ⟨rfl, e⟩ | ⟨rfl, e⟩ <;> (rw [e]; simp only [Int.reducePow, Int.reduceSub, Int.reduceMul] at *; omega)
theorem wrI_in {S W n : Nat} {t s v : Int} (h0 : 2 ≤ W) (h1 : W ≤ 4) (hn0 : 1 ≤ n) (hn : n < W) (s0 : 0 ≤ t) (s1 : t < (S : Nat)) (hs : s = 0 ∨ s = 1) (v0 : 0 ≤ v) (v1 : v < 2 ^ n) : 0 ≤ wrI (S : Nat) W t s n v ∧ wrI (S : Nat) W t s n v < (loS S W : Nat) := by
  unfold wrI rdI
  rcases hs with rfl | rfl <;> rcases (by omega : n = 1 ∨ n = 2 ∨ n = 3) with rfl | rfl | rfl <;> rcases loS_is (S := S) (by omega : 1 ≤ W) h1 with ⟨rfl, e⟩ | ⟨rfl, e⟩ | ⟨rfl, e⟩ | ⟨rfl, e⟩ <;> (rw [e]; simp only [Int.reducePow, Int.reduceSub, Int.reduceMul] at *; omega)
theorem goI_in {S W k : Nat} {t s : Int} (h0 : 2 ≤ W) (h1 : W ≤ 4) (hn0 : 1 ≤ k) (hn : k < W) (s0 : 0 ≤ t) (s1 : t < (S : Nat)) (hs : s = 0 ∨ s = 1) : 0 ≤ goI (S : Nat) W t s (k : Nat) ∧ goI (S : Nat) W t s (k : Nat) < (loS S W : Nat) := by
  unfold goI wrI rdI
  rcases hs with rfl | rfl <;> rcases (by omega : k = 1 ∨ k = 2 ∨ k = 3) with rfl | rfl | rfl <;> rcases loS_is (S := S) (by omega : 1 ≤ W) h1 with ⟨rfl, e⟩ | ⟨rfl, e⟩ | ⟨rfl, e⟩ | ⟨rfl, e⟩ <;> (rw [e]; simp only [Int.reducePow, Int.reduceSub, Int.reduceMul] at *; omega)
theorem RowOk.to {m s s' : Int} {r : Rw} (h : RowOk m s r) (hs : s ≤ s') : RowOk m s' r := by
  cases r with
  | none => trivial
  | some r => obtain ⟨w, v, t⟩ := r; obtain ⟨h1, h2, h3, h4, h5⟩ := h; exact ⟨h1, h2, h3, h4, by omega⟩
theorem rowOf_ok {m s : Int} {rs : List Rw} (ok : ∀ r ∈ rs, RowOk m s r) (st k : Int) : RowOk m s (rowOf m rs st k) := by
  unfold rowOf
  cases e : rs[(st * m + k).toNat]? with
  | none => trivial
  | some r => exact ok r (List.mem_of_getElem? e)
theorem readRow_ok {S : Nat} {W n : Nat} {m : Int} {rs : List Rw} {st v b : Int} (hm : 2 ≤ m) (hm' : m ≤ 16) (hW : W = wd m) (ok : ∀ r ∈ rs, RowOk m (S : Nat) r) (hn : n < W) (s0 : 0 ≤ st) (s1 : st < (S : Nat)) (v0 : 0 ≤ v) (v1 : v < 2 ^ n) (hb : b = 0 ∨ b = 1) : RowOk 2 (loS S W : Nat) (readRow (S : Nat) W m rs st n v b) := by
  have hw := wd_cases hm hm'
  unfold readRow
  split
  · rename_i hlt
    have := rdI_in (S := S) (W := W) (n := n + 1) (st := st) (v := 2 * v + b) (by omega) (by omega) (by omega) s0 s1 (by omega) (by rw [Int.pow_succ]; omega)
    exact ⟨by omega, by omega, .inr rfl, this.1, this.2⟩
  · rename_i hlt
    have ho := rowOf_ok ok st (2 * v + b)
    cases er : (if 2 * v + b < m then rowOf m rs st (2 * v + b) else none) with
    | none => trivial
    | some r =>
      obtain ⟨w, d, t⟩ := r
      split at er
      · rw [er] at ho
        obtain ⟨h1, h2, h3, h4, h5⟩ := ho
        show RowOk 2 _ (if W = 1 then some (w, d, t) else some (w % 2, -1, wrI (S : Nat) W t (if d = 1 then 1 else 0) (W - 1) (w / 2)))
        split
        · rename_i e1
          have l1 : loS S W = S := by rw [e1]; exact Nat.mul_one S
          refine ⟨h1, by omega, h3, h4, ?_⟩
          rw [l1]; exact h5
        · rename_i e1
          have hv : w / 2 < 2 ^ (W - 1) := by
            rcases (by omega : W = 2 ∨ W = 3 ∨ W = 4) with e | e | e <;> (rw [e]; simp only [Int.reducePow, Nat.reduceSub]; omega)
          have := wrI_in (S := S) (W := W) (n := W - 1) (t := t) (s := if d = 1 then 1 else 0) (v := w / 2) (by omega) (by omega) (by omega) (by omega) h4 h5 (by split <;> simp) (by omega) hv
          exact ⟨by omega, by omega, .inl rfl, this.1, this.2⟩
      · cases er
theorem writeRow_ok {S : Nat} {W n : Nat} {st s v : Int} (h0 : 2 ≤ W) (h1 : W ≤ 4) (hn0 : 1 ≤ n) (hn : n < W) (s0 : 0 ≤ st) (s1 : st < (S : Nat)) (hs : s = 0 ∨ s = 1) (v0 : 0 ≤ v) (v1 : v < 2 ^ n) : RowOk 2 (loS S W : Nat) (writeRow (S : Nat) W st s n v) := by
  unfold writeRow
  split
  · rename_i hlt
    have hv : v / 2 < 2 ^ (n - 1) := by
      obtain ⟨k, rfl⟩ : ∃ k, n = k + 1 := ⟨n - 1, by omega⟩
      rw [Int.pow_succ] at v1
      rw [Nat.add_sub_cancel]
      omega
    have := wrI_in (S := S) (W := W) (n := n - 1) (t := st) (s := s) (v := v / 2) h0 h1 (by omega) (by omega) s0 s1 hs (by omega) hv
    exact ⟨by omega, by omega, .inl rfl, this.1, this.2⟩
  · rename_i hlt
    obtain rfl : n = 1 := by omega
    have := goI_in (S := S) (W := W) (k := W - 1) (t := st) (s := s) h0 h1 (by omega) (by omega) s0 s1 hs
    exact ⟨v0, v1, by omega, this.1, this.2⟩
theorem goRow_ok {S : Nat} {W k : Nat} {st s b : Int} (h0 : 2 ≤ W) (h1 : W ≤ 4) (hn0 : 1 ≤ k) (hn : k < W) (s0 : 0 ≤ st) (s1 : st < (S : Nat)) (hs : s = 0 ∨ s = 1) (hb : b = 0 ∨ b = 1) : RowOk 2 (loS S W : Nat) (goRow (S : Nat) W st s k b) := by
  unfold goRow
  split
  · rename_i hlt
    have := goI_in (S := S) (W := W) (k := k - 1) (t := st) (s := s) h0 h1 (by omega) (by omega) s0 s1 hs
    exact ⟨by omega, by omega, by omega, this.1, this.2⟩
  · have l := loS_is (S := S) (by omega : 1 ≤ W) h1
    exact ⟨by omega, by omega, by omega, s0, by omega⟩
theorem low_ok {S W : Nat} {m : Int} {rs : List Rw} (hm : 2 ≤ m) (hm' : m ≤ 16) (hW : W = wd m) (ok : ∀ r ∈ rs, RowOk m (S : Nat) r) : ∀ r ∈ lowRows S W m rs, RowOk 2 (loS S W : Nat) r := by
  have hw := wd_cases hm hm'
  have bit : ∀ b, b ∈ List.range 2 → (b : Int) = 0 ∨ (b : Int) = 1 := fun b h => by have := List.mem_range.mp h; omega
  have pw : ∀ {n v : Nat}, v ∈ List.range (2 ^ n) → ((v : Nat) : Int) < 2 ^ n := fun {n v} h => by
    have := List.mem_range.mp h
    have e : ((2 ^ n : Nat) : Int) = (2 : Int) ^ n := by simp
    omega
  intro r hr
  unfold lowRows at hr
  rcases List.mem_append.mp hr with hr | hr
  · rcases List.mem_append.mp hr with hr | hr
    · obtain ⟨n, hn, hr⟩ := List.mem_flatMap.mp hr
      obtain ⟨st, hst, hr⟩ := List.mem_flatMap.mp hr
      obtain ⟨v, hv, hr⟩ := List.mem_flatMap.mp hr
      obtain ⟨b, hb, hr⟩ := List.mem_flatMap.mp hr
      rw [List.mem_singleton.mp hr]
      exact readRow_ok hm hm' hW ok (List.mem_range.mp hn) (by omega) (by have := List.mem_range.mp hst; omega) (by omega) (pw hv) (bit b hb)
    · obtain ⟨i, hi, hr⟩ := List.mem_flatMap.mp hr
      obtain ⟨st, hst, hr⟩ := List.mem_flatMap.mp hr
      obtain ⟨s, hs, hr⟩ := List.mem_flatMap.mp hr
      obtain ⟨v, hv, hr⟩ := List.mem_flatMap.mp hr
      obtain ⟨b, hb, hr⟩ := List.mem_flatMap.mp hr
      rw [List.mem_singleton.mp hr]
      have := List.mem_range.mp hi
      exact writeRow_ok (by omega) (by omega) (by omega) (by omega) (by omega) (by have := List.mem_range.mp hst; omega) (bit s hs) (by omega) (pw hv)
  · obtain ⟨i, hi, hr⟩ := List.mem_flatMap.mp hr
    obtain ⟨st, hst, hr⟩ := List.mem_flatMap.mp hr
    obtain ⟨s, hs, hr⟩ := List.mem_flatMap.mp hr
    obtain ⟨b, hb, hr⟩ := List.mem_flatMap.mp hr
    rw [List.mem_singleton.mp hr]
    have := List.mem_range.mp hi
    exact goRow_ok (by omega) (by omega) (by omega) (by omega) (by omega) (by have := List.mem_range.mp hst; omega) (bit s hs) (bit b hb)
/-! the machine with two marks is made -/
theorem pow_wd {m : Int} {b : Nat} (h0 : 2 ≤ m) (h1 : m ≤ 16) (hb0 : 1 ≤ b) (hb : b ≤ wd m) : (1 * 2 ^ b < m ↔ b < wd m) := by
  have hw := wd_cases h0 h1
  rcases (by omega : b = 1 ∨ b = 2 ∨ b = 3 ∨ b = 4) with rfl | rfl | rfl | rfl <;> (simp only [Int.reducePow, Int.reduceMul]; omega)
theorem width_ok (T : Tx K mg) {h : DH} {Q : QD} {Qx : QX} {m : Int} (h0 : 2 ≤ m) (h1 : m ≤ 16) (q : Q (.int (wd m : Nat)) h) : W_width T [.int m] h Q Qx := by
  have hw := wd_cases h0 h1
  walk_at "wf"
  refine while_f [1] (fun k vs hh => hh = h ∧ ∃ b : Nat, vs = [some (.int (b : Nat))] ∧ 1 ≤ b ∧ b ≤ wd m ∧ k + b = 4) [some (.int 1)] 3 rfl ⟨rfl, 1, rfl, Nat.le_refl _, by omega, rfl⟩ ?_
  rintro k vs hh N sb ⟨rfl, b, rfl, b0, b1, e⟩ hN
  have p := pow_wd h0 h1 b0 b1
  walk_at "w"
  by_cases hb : b < wd m
  · have p := p.mpr hb
    walk_at "w"
    exact hN (k - 1) [_] _ _ (by omega) ⟨rfl, b + 1, rfl, by omega, by omega, by omega⟩ rfl (by walk_at "ws")
  · have p := mt p.mp hb
    walk_at "w"
    obtain rfl : b = wd m := by omega
    exact rt_go (by assumption) q
local macro_rules | `(tactic| walk_at "wcall") => `(tactic| ((with_reducible refine width_ok _ ?g1 ?g3 ?g2); (case g1 => omega); (case g3 => omega)))
theorem blk_of {n : Nat} {x : Int} : (List.range n).map (fun j : Nat => Builtin.bitAnd (x / 2 ^ (((n : Nat) : Int) - 1 - (j : Int)).toNat) 1) = blk n x := by
  unfold blk
  refine List.map_congr_left fun j hj => ?_
  have hj := List.mem_range.mp hj
  rw [band1, show (((n : Nat) : Int) - 1 - (j : Int)).toNat = n - 1 - j by omega]
theorem block_ok (T : Tx K mg) {h : DH} {Q : QD} {Qx : QX} {m x : Int} (h0 : 2 ≤ m) (h1 : m ≤ 16) (x0 : 0 ≤ x) (x1 : x < 16) (q : ∀ h', Sub h h' → Q (.tup ((blk (wd m) x).map D.int)) h') : W_block T [.int m, .int x] h Q Qx := by
  have hw := wd_cases h0 h1
  walk_at "wf"
  rw [blk_of]
  exact rt_go (by assumption) (q _ (by walk_at "ws"))
local macro_rules | `(tactic| walk_at "wcall") => `(tactic| ((with_reducible refine block_ok _ ?g1 ?g3 ?g4 ?g5 ?g2); (case g1 => omega); (case g3 => omega); (case g4 => omega); (case g5 => omega)))
/-- the stair, without its lower machine -/
abbrev twoF (mp : Addr) (W : Nat) : List (Str × D) := [("upper", .ref mp), ("_width", .int (W : Nat))]
def TwoPre (T : Tx K mg) (h : DH) (p mp : Addr) (m : Int) (S W : Nat) (rs : List Rw) : Prop := h p = some (.ins T.C_TwoMarks (twoF mp W)) ∧ IsTape T h mp m (S : Nat) rs
theorem TwoPre.sub {T : Tx K mg} {h h' : DH} {p mp : Addr} {m : Int} {S W : Nat} {rs : List Rw} (a : TwoPre T h p mp m S W rs) (b : Sub h h') : TwoPre T h' p mp m S W rs := ⟨b _ _ a.1, a.2.sub b⟩
theorem cpw {i : Int} {n : Nat} (h0 : -100000 < i) (h1 : i < 100000) (hn : n ≤ 1000) : CPow i (n : Nat) := cpow_s (by omega) (by omega) (by omega) (by omega)
theorem read_ok (T : Tx K mg) {h : DH} {Q : QD} {Qx : QX} {p mp : Addr} {m st v : Int} {S W n : Nat} {rs : List Rw} (tp : TwoPre T h p mp m S W rs) (hS : S ≤ 4000) (hn : n ≤ 4) (s0 : 0 ≤ st) (s1 : st < 4000) (v0 : 0 ≤ v) (v1 : v < 64) (q : Q (.int (rdI (S : Nat) st n v)) h) : W_TwoMarksddread T [.ref p, .int st, .int (n : Nat), .int v] h Q Qx := by
  obtain ⟨e1, rp, e2, e3⟩ := id tp
  walk_at "wf"
  rw [Int.one_mul]
  exact rt_go (by assumption) q
local macro_rules | `(tactic| walk_at "wcall") => `(tactic| ((with_reducible refine read_ok _ (mp := ?s1) (m := ?s2) (S := ?s3) (W := ?s4) (rs := ?s5) ?g1 ?g3 ?g4 ?g5 ?g6 ?g7 ?g8 ?g2); (case g1 => first | assumption | exact TwoPre.sub (by assumption) (by walk_at "ws")); (case g3 => omega); (case g4 => omega); (case g5 => omega); (case g6 => omega); (case g7 => omega); (case g8 => omega)))
theorem rdI_b {S n : Nat} {st v : Int} (hS : S ≤ 4000) (hn : n ≤ 4) (s0 : 0 ≤ st) (s1 : st < 4000) (v0 : 0 ≤ v) (v1 : v < 64) : 0 ≤ rdI (S : Nat) st n v ∧ rdI (S : Nat) st n v < 500000 := by
  unfold rdI
  rcases (by omega : n = 0 ∨ n = 1 ∨ n = 2 ∨ n = 3 ∨ n = 4) with rfl | rfl | rfl | rfl | rfl <;> (simp only [Int.reducePow, Int.reduceSub, Int.reduceMul]; omega)
theorem write_ok (T : Tx K mg) {h : DH} {Q : QD} {Qx : QX} {p mp : Addr} {m t s v : Int} {S W n : Nat} {rs : List Rw} (tp : TwoPre T h p mp m S W rs) (hS : S ≤ 4000) (hW : W ≤ 4) (hn0 : 1 ≤ n) (hn : n ≤ 4) (s0 : 0 ≤ t) (s1 : t < 4000) (hs0 : 0 ≤ s) (hs1 : s ≤ 1) (v0 : 0 ≤ v) (v1 : v < 64) (q : Q (.int (wrI (S : Nat) W t s n v)) h) : W_TwoMarksddwrite T [.ref p, .int t, .int s, .int (n : Nat), .int v] h Q Qx := by
  obtain ⟨e1, rp, e2, e3⟩ := id tp
  have b := rdI_b (S := S) (n := W) (st := 0) (v := 0) hS hW (Int.le_refl _) (by decide) (Int.le_refl _) (by decide)
  walk_at "wf"
  rw [Int.one_mul]
  exact rt_go (by assumption) q
local macro_rules | `(tactic| walk_at "wcall") => `(tactic| ((with_reducible refine write_ok _ (mp := ?s1) (m := ?s2) (S := ?s3) (W := ?s4) (rs := ?s5) ?g1 ?g3 ?g4 ?g5 ?g6 ?g7 ?g8 ?g9 ?g10 ?g11 ?g12 ?g2); (case g1 => first | assumption | exact TwoPre.sub (by assumption) (by walk_at "ws")); (case g3 => omega); (case g4 => omega); (case g5 => omega); (case g6 => omega); (case g7 => omega); (case g8 => omega); (case g9 => omega); (case g10 => omega); (case g11 => omega); (case g12 => omega)))
theorem wrI_b {S W n : Nat} {t s v : Int} (hS : S ≤ 4000) (hW : W ≤ 4) (hn0 : 1 ≤ n) (hn : n ≤ 4) (s0 : 0 ≤ t) (s1 : t < 4000) (hs0 : 0 ≤ s) (hs1 : s ≤ 1) (v0 : 0 ≤ v) (v1 : v < 64) : 0 ≤ wrI (S : Nat) W t s n v ∧ wrI (S : Nat) W t s n v < 2000000 := by
  have b := rdI_b (S := S) (n := W) (st := 0) (v := 0) hS hW (Int.le_refl _) (by decide) (Int.le_refl _) (by decide)
  unfold wrI
  generalize rdI (S : Nat) 0 W 0 = R at *
  rcases (by omega : n = 1 ∨ n = 2 ∨ n = 3 ∨ n = 4) with rfl | rfl | rfl | rfl <;> (simp only [Int.reducePow, Int.reduceSub, Int.reduceMul]; omega)
theorem go_ok (T : Tx K mg) {h : DH} {Q : QD} {Qx : QX} {p mp : Addr} {m t s : Int} {S W k : Nat} {rs : List Rw} (tp : TwoPre T h p mp m S W rs) (hS : S ≤ 4000) (hW0 : 1 ≤ W) (hW : W ≤ 4) (hk0 : 1 ≤ k) (hk : k ≤ 4) (s0 : 0 ≤ t) (s1 : t < 4000) (hs0 : 0 ≤ s) (hs1 : s ≤ 1) (q : Q (.int (goI (S : Nat) W t s (k : Nat))) h) : W_TwoMarksddgo T [.ref p, .int t, .int s, .int (k : Nat)] h Q Qx := by
  obtain ⟨e1, rp, e2, e3⟩ := id tp
  have b := wrI_b (S := S) (W := W) (n := W) (t := 0) (s := 0) (v := 0) hS hW hW0 hW (Int.le_refl _) (by decide) (Int.le_refl _) (by decide) (Int.le_refl _) (by decide)
  walk_at "wf"
local macro_rules | `(tactic| walk_at "wcall") => `(tactic| ((with_reducible refine go_ok _ (mp := ?s1) (m := ?s2) (S := ?s3) (W := ?s4) (rs := ?s5) ?g1 ?g3 ?g4 ?g5 ?g6 ?g7 ?g8 ?g9 ?g10 ?g11 ?g2); (case g1 => first | assumption | exact TwoPre.sub (by assumption) (by walk_at "ws")); (case g3 => omega); (case g4 => omega); (case g5 => omega); (case g6 => omega); (case g7 => omega); (case g8 => omega); (case g9 => omega); (case g10 => omega); (case g11 => omega)))
theorem rowOf_at {m st k : Int} {S : Nat} {rs : List Rw} (hm : 2 ≤ m) (hl : rs.length = (m * (S : Nat)).toNat) (s0 : 0 ≤ st) (s1 : st < (S : Nat)) (k0 : 0 ≤ k) (k1 : k < m) : atI (rs.map rowD) (st * m + k) = some (rowD (rowOf m rs st k)) := by
  have h1 : 0 ≤ st * m := Int.mul_nonneg s0 (by omega)
  have h2 : (st + 1) * m ≤ (S : Nat) * m := Int.mul_le_mul_of_nonneg_right (by omega) (by omega)
  have h3 : (st + 1) * m = st * m + m := by rw [Int.add_mul, Int.one_mul]
  have h6 : m * (S : Nat) = (S : Nat) * m := Int.mul_comm _ _
  obtain ⟨n, e⟩ := Int.eq_ofNat_of_zero_le (show 0 ≤ st * m + k by omega)
  unfold rowOf
  rw [e, Int.toNat_natCast, atN, List.getElem?_map]
  have hn : n < rs.length := by omega
  rw [List.getElem?_eq_getElem hn]; rfl
theorem read_row_ok (T : Tx K mg) {h : DH} {Q : QD} {Qx : QX} {p mp : Addr} {m st v b : Int} {S W n : Nat} {rs : List Rw} (tp : TwoPre T h p mp m S W rs) (hS : S ≤ 4000) (hm : 2 ≤ m) (hm' : m ≤ 16) (hW : W = wd m) (hl : rs.length = (m * (S : Nat)).toNat) (ok : ∀ r ∈ rs, RowOk m (S : Nat) r) (hn : n < W) (s0 : 0 ≤ st) (s1 : st < (S : Nat)) (v0 : 0 ≤ v) (v1 : v < 2 ^ n) (hb : b = 0 ∨ b = 1)
    (q : Q (rowD (readRow (S : Nat) W m rs st n v b)) h) : W_TwoMarksddread_row T [.ref p, .int st, .int (n : Nat), .int v, .int b] h Q Qx := by
  obtain ⟨e1, rp, e2, e3⟩ := id tp
  have hw := wd_cases hm hm'
  have v2 : v < 8 := by
    rcases (by omega : n = 0 ∨ n = 1 ∨ n = 2 ∨ n = 3) with rfl | rfl | rfl | rfl <;> (simp only [Int.reducePow] at v1; omega)
  unfold readRow at q
  by_cases c : n < W - 1
  · rw [if_pos c] at q
    walk_at "wf"
    rw [show ((n : Nat) : Int) + 1 = ((n + 1 : Nat) : Int) from rfl]
    refine read_ok T (mp := mp) (m := m) (S := S) (W := W) (rs := rs) tp hS (by omega) (by omega) (by omega) (by omega) (by omega) ?_
    walk_at "w"
  · rw [if_neg c] at q
    walk_at "wf"
    rename Ev → DH → Prop => N1
    have fin : ∀ r : Rw, RowOk m (S : Nat) r → (if 2 * v + b < m then rowOf m rs st (2 * v + b) else none) = r → N1 [some (.ref p), some (.int st), some (.int (n : Nat)), some (.int (2 * v + b)), some (.int b), some (rowD r), none, none, none, none] h := fun r hr er => by
      rw [er] at q
      cases r with
      | none =>
        have q : Q .non h := q
        rw [show rowD none = D.non from rfl]
        walk_at "w"
        done
      | some r =>
        obtain ⟨w, d, t⟩ := r
        obtain ⟨r1, r2, r3, r4, r5⟩ := hr
        have q : Q (rowD (if W = 1 then some (w, d, t) else some (w % 2, -1, wrI (S : Nat) W t (if d = 1 then 1 else 0) (W - 1) (w / 2)))) h := q
        rw [rowD]
        by_cases w1 : W = 1
        · rw [if_pos w1] at q
          walk_at "w"
          done
        · rw [if_neg w1] at q
          have eW : ((W : Nat) : Int) - 1 = ((W - 1 : Nat) : Int) := by omega
          have e2 : w / 2 ^ Int.toNat 1 = w / 2 := rfl
          rcases r3 with rfl | rfl
          · walk_at "w"
            rw [eW, e2]
            refine write_ok T (mp := mp) (m := m) (S := S) (W := W) (rs := rs) tp hS (by omega) (by omega) (by omega) r4 (by omega) (by omega) (by omega) (by omega) (by omega) ?_
            walk_at "w"
            rw [band1]
            walk_at "w"
          · walk_at "w"
            rw [eW, e2]
            refine write_ok T (mp := mp) (m := m) (S := S) (W := W) (rs := rs) tp hS (by omega) (by omega) (by omega) r4 (by omega) (by omega) (by omega) (by omega) (by omega) ?_
            walk_at "w"
            rw [band1]
            walk_at "w"
    split
    · rename_i z
      have ho := rowOf_ok ok st (2 * v + b)
      walk_at "w"
      refine taperow_ok T (m := m) (s := (S : Nat)) (rs := rs) ⟨rp, e2, e3⟩ hm hm' s0 s1 (by omega) z (rowOf_at hm hl s0 s1 (by omega) z) ?_
      exact fin _ ho (if_pos z)
    · rename_i z
      exact fin none trivial (if_neg z)
theorem write_row_ok (T : Tx K mg) {h : DH} {Q : QD} {Qx : QX} {p mp : Addr} {m st s v : Int} {S W n : Nat} {rs : List Rw} (tp : TwoPre T h p mp m S W rs) (hS : S ≤ 4000) (hW0 : 2 ≤ W) (hW : W ≤ 4) (hn0 : 1 ≤ n) (hn : n < W) (s0 : 0 ≤ st) (s1 : st < (S : Nat)) (hs : s = 0 ∨ s = 1) (v0 : 0 ≤ v) (v1 : v < 2 ^ n)
    (q : Q (rowD (writeRow (S : Nat) W st s n v)) h) : W_TwoMarksddwrite_row T [.ref p, .int st, .int s, .int (n : Nat), .int v] h Q Qx := by
  obtain ⟨e1, rp, e2, e3⟩ := id tp
  have v2 : v < 8 := by
    rcases (by omega : n = 1 ∨ n = 2 ∨ n = 3) with rfl | rfl | rfl <;> (simp only [Int.reducePow] at v1; omega)
  have eW : ((W : Nat) : Int) - 1 = ((W - 1 : Nat) : Int) := by omega
  have en : ((n : Nat) : Int) - 1 = ((n - 1 : Nat) : Int) := by omega
  have e2 : v / 2 ^ Int.toNat 1 = v / 2 := rfl
  unfold writeRow at q
  by_cases c : 1 < n
  · rw [if_pos c] at q
    walk_at "wf"
    rw [en, e2]
    refine write_ok T (mp := mp) (m := m) (S := S) (W := W) (rs := rs) tp hS (by omega) (by omega) (by omega) s0 (by omega) (by omega) (by omega) (by omega) (by omega) ?_
    walk_at "w"
    rw [band1]
    walk_at "w"
  · rw [if_neg c] at q
    walk_at "wf"
    rw [eW]
    refine go_ok T (mp := mp) (m := m) (S := S) (W := W) (rs := rs) tp hS (by omega) (by omega) (by omega) (by omega) s0 (by omega) (by omega) (by omega) ?_
    walk_at "w"
theorem go_row_ok (T : Tx K mg) {h : DH} {Q : QD} {Qx : QX} {p mp : Addr} {m st s b : Int} {S W k : Nat} {rs : List Rw} (tp : TwoPre T h p mp m S W rs) (hS : S ≤ 4000) (hW0 : 2 ≤ W) (hW : W ≤ 4) (hn0 : 1 ≤ k) (hn : k < W) (s0 : 0 ≤ st) (s1 : st < (S : Nat)) (hs : s = 0 ∨ s = 1)
    (q : Q (rowD (goRow (S : Nat) W st s k b)) h) : W_TwoMarksddgo_row T [.ref p, .int st, .int s, .int (k : Nat), .int b] h Q Qx := by
  obtain ⟨e1, rp, e2, e3⟩ := id tp
  have en : ((k : Nat) : Int) - 1 = ((k - 1 : Nat) : Int) := by omega
  unfold goRow at q
  by_cases c : 1 < k
  · rw [if_pos c] at q
    walk_at "wf"
    rw [en]
    refine go_ok T (mp := mp) (m := m) (S := S) (W := W) (rs := rs) tp hS (by omega) (by omega) (by omega) (by omega) s0 (by omega) (by omega) (by omega) ?_
    walk_at "w"
  · rw [if_neg c] at q
    walk_at "wf"
/-! the lists of rows -/
section
variable {α : Type} {hB : DH} {p : Addr} {N : DH → Prop} {gd : DH → Prop} {xs : List D} {wi : WI} {i : Nat} {ws : List (WI × Nat)} {we : WE} {env : Ev} {h1 : DH} {Q : QD}
theorem apps_inM (r : α → D) (G : Nat → List α) (n : Nat) (hw : ∀ (h : DH) (R : Src → DH → Prop), Sub hB h → (∀ h2, Sub h h2 → R ⟨xs, gd⟩ h2) → wi env h R (fun _ _ => False)) (hn : xs.length = n) (hgd : ∀ h, Sub hB h → gd h)
    (hf : ∀ j x, j < n → xs[j]? = some x → Apps p hB ((G j).map r) (fun h N => inW p we ws (env.set i (some x)) h N)) : Apps p hB (((List.range n).flatMap G).map r) (fun h N => inW p we ((wi, i) :: ws) env h N) := by
  subst hn
  rw [List.map_flatMap]
  exact apps_in _ hw hgd fun j x hx => hf j x (List.getElem?_eq_some_iff.mp hx).1 hx
theorem lcN_appsM (r : α → D) (G : Nat → List α) (n : Nat) (hn : xs.length = n) (hgd : ∀ h, Sub h1 h → gd h) (hl : ((List.range n).flatMap G).length ≤ 100000) (hf : ∀ p, h1 p = none → ∀ j x, j < n → xs[j]? = some x → Apps p h1 ((G j).map r) (fun h N => inW p we ws (env.set i (some x)) h N))
    (q : ∀ p h', h1 p = none → Sub h1 h' → h' p = some (.lst (((List.range n).flatMap G).map r)) → Q (.ref p) h') : LcN i ws we env Q ⟨xs, gd⟩ h1 := by
  subst hn
  rw [List.map_flatMap] at q
  refine lcN_apps _ hgd ?_ (fun p hp j x hx => hf p hp j x (List.getElem?_eq_some_iff.mp hx).1 hx) q
  rw [← List.map_flatMap, List.length_map]; exact hl
end
theorem bits_at {j : Nat} {x : D} (h : [D.int 0, D.int 1][j]? = some x) : x = .int (j : Nat) := by
  match j, h with
  | 0, h => cases h; rfl
  | 1, h => cases h; rfl
  | j + 2, h => cases h
theorem pow_nat {n : Nat} : ((2 ^ n : Nat) : Int) = (2 : Int) ^ n := by simp
theorem pow_lt {n v : Nat} (h : v < 2 ^ n) : ((v : Nat) : Int) < 2 ^ n := by rw [← pow_nat]; omega
theorem read_rows_ok (T : Tx K mg) {h : DH} {Q : QD} {Qx : QX} {p mp : Addr} {m : Int} {S W : Nat} {rs : List Rw} (tp : TwoPre T h p mp m S W rs) (hS : S ≤ 4000) (hm : 2 ≤ m) (hm' : m ≤ 16) (hW : W = wd m) (hl : rs.length = (m * (S : Nat)).toNat) (ok : ∀ r ∈ rs, RowOk m (S : Nat) r) (hL : loS S W ≤ 4000)
    (q : ∀ lp h', h lp = none → Sub h h' → h' lp = some (.lst ((readRows S W m rs).map rowD)) → Q (.ref lp) h') : W_TwoMarksddread_rows T [.ref p] h Q Qx := by
  obtain ⟨e1, rp, e2, e3⟩ := id tp
  have hw := wd_cases hm hm'
  walk_at "wf"
  refine lcN_appsM rowD (fun n => (List.range S).flatMap fun st => (List.range (2 ^ n)).flatMap fun v => (List.range 2).flatMap fun b => [readRow (S : Nat) W m rs (st : Nat) n (v : Nat) (b : Nat)]) W (upto_len _ _) (fun _ _ => trivial) ?_ (fun lp fp n x hn hx => ?_) fun lp h' f s e => ?_
  · have := read_len (S := S) (m := m) (rs := rs) (by omega : 1 ≤ W) (by omega)
    unfold readRows at this
    rw [this]
    rcases loS_is (S := S) (by omega : 1 ≤ W) (by omega) with ⟨e, e5⟩ | ⟨e, e5⟩ | ⟨e, e5⟩ | ⟨e, e5⟩ <;> (rw [e]; simp only [Nat.reducePow, Nat.reduceSub, Nat.reduceMul]; omega)
  · obtain ⟨_, rfl⟩ := upto_get hx
    rw [Int.zero_add]
    show Apps lp h _ (fun h N => inW lp _ _ [some (.ref p), none, some (.int (n : Nat)), none, none] h N)
    refine apps_inM rowD _ S (fun h2 R s2 qR => ?_) (upto_len 0 _) (fun _ _ => trivial) fun st x hst hx => ?_
    · have tp2 := tp.sub s2
      obtain ⟨f1, rp', f2, f3⟩ := id tp2
      walk_at "w"
      exact qR _ (Sub.refl _)
    · obtain ⟨_, rfl⟩ := upto_get hx
      rw [Int.zero_add]
      show Apps lp h _ (fun h N => inW lp _ _ [some (.ref p), none, some (.int (n : Nat)), some (.int (st : Nat)), none] h N)
      refine apps_inM rowD _ (2 ^ n) (fun h2 R s2 qR => ?_) (upto_len 0 _) (fun _ _ => trivial) fun v x hv hx => ?_
      · have e8 : (1 * (2 : Int) ^ n) = ((2 ^ n : Nat) : Int) := by rw [Int.one_mul, pow_nat]
        have b8 : 2 ^ n ≤ 8 := by rcases (by omega : n = 0 ∨ n = 1 ∨ n = 2 ∨ n = 3) with rfl | rfl | rfl | rfl <;> decide
        walk_at "w"
        rw [e8, Int.toNat_natCast]
        have q9 := qR _ (Sub.refl _)
        obtain ⟨P, hP⟩ : ∃ P, 2 ^ n = P := ⟨_, rfl⟩
        rw [hP] at b8 q9 ⊢
        exact ⟨by omega, by omega, q9⟩
      · obtain ⟨_, rfl⟩ := upto_get hx
        rw [Int.zero_add]
        show Apps lp h _ (fun h N => inW lp _ _ [some (.ref p), none, some (.int (n : Nat)), some (.int (st : Nat)), some (.int (v : Nat))] h N)
        refine apps_inM (xs := [D.int 0, D.int 1]) rowD _ 2 (fun h2 R s2 qR => ?_) rfl (fun _ _ => trivial) fun b x hb hx => ?_
        · walk_at "w"
          exact qR _ (Sub.refl _)
        · rw [bits_at hx]
          show Apps lp h _ (fun h N => inW lp _ _ [some (.ref p), some (.int (b : Nat)), some (.int (n : Nat)), some (.int (st : Nat)), some (.int (v : Nat))] h N)
          refine apps_leaf fp fun h2 R s2 qR => ?_
          have tp2 := tp.sub s2
          obtain ⟨f1, rp', f2, f3⟩ := id tp2
          walk_at "w"
          refine read_row_ok T tp2 hS hm hm' hW hl ok hn (by omega) (by omega) (by omega) (pow_lt hv) (by omega) ?_
          exact qR _ (Sub.refl _)
  · exact rt_go (by assumption) (q lp h' f s e)
theorem write_rows_ok (T : Tx K mg) {h : DH} {Q : QD} {Qx : QX} {p mp : Addr} {m : Int} {S W : Nat} {rs : List Rw} (tp : TwoPre T h p mp m S W rs) (hS : S ≤ 4000) (h0 : 1 ≤ W) (h1 : W ≤ 4) (hL : loS S W ≤ 4000)
    (q : ∀ lp h', h lp = none → Sub h h' → h' lp = some (.lst ((writeRows S W).map rowD)) → Q (.ref lp) h') : W_TwoMarksddwrite_rows T [.ref p] h Q Qx := by
  obtain ⟨e1, rp, e2, e3⟩ := id tp
  walk_at "wf"
  rw [show (((W : Nat) : Int) - 1).toNat = W - 1 by omega]
  refine lcN_appsM rowD (fun i => (List.range S).flatMap fun st => (List.range 2).flatMap fun s => (List.range (2 ^ (i + 1))).flatMap fun v => (List.range 2).flatMap fun _ => [writeRow (S : Nat) W (st : Nat) (s : Nat) (i + 1) (v : Nat)]) (W - 1) (upto_len _ _) (fun _ _ => trivial) ?_ (fun lp fp i x hn hx => ?_) fun lp h' f s e => ?_
  · have := write_len (S := S) (W := W)
    unfold writeRows at this
    rw [this]
    rcases loS_is (S := S) h0 h1 with ⟨e, e5⟩ | ⟨e, e5⟩ | ⟨e, e5⟩ | ⟨e, e5⟩ <;> (rw [e]; simp only [Nat.reducePow, Nat.reduceSub, Nat.reduceMul]; omega)
  · obtain ⟨_, rfl⟩ := upto_get hx
    rw [show (1 : Int) + (i : Nat) = ((i + 1 : Nat) : Int) by omega]
    show Apps lp h _ (fun h N => inW lp _ _ [some (.ref p), none, none, some (.int ((i + 1 : Nat) : Int)), none, none] h N)
    refine apps_inM rowD _ S (fun h2 R s2 qR => ?_) (upto_len 0 _) (fun _ _ => trivial) fun st x hst hx => ?_
    · have tp2 := tp.sub s2
      obtain ⟨f1, rp', f2, f3⟩ := id tp2
      walk_at "w"
      exact qR _ (Sub.refl _)
    · obtain ⟨_, rfl⟩ := upto_get hx
      rw [Int.zero_add]
      show Apps lp h _ (fun h N => inW lp _ _ [some (.ref p), none, none, some (.int ((i + 1 : Nat) : Int)), some (.int (st : Nat)), none] h N)
      refine apps_inM (xs := [D.int 0, D.int 1]) rowD _ 2 (fun h2 R s2 qR => ?_) rfl (fun _ _ => trivial) fun s x hs hx => ?_
      · walk_at "w"
        exact qR _ (Sub.refl _)
      · rw [bits_at hx]
        show Apps lp h _ (fun h N => inW lp _ _ [some (.ref p), none, some (.int (s : Nat)), some (.int ((i + 1 : Nat) : Int)), some (.int (st : Nat)), none] h N)
        refine apps_inM rowD _ (2 ^ (i + 1)) (fun h2 R s2 qR => ?_) (upto_len 0 _) (fun _ _ => trivial) fun v x hv hx => ?_
        · have e8 : (1 * (2 : Int) ^ (i + 1)) = ((2 ^ (i + 1) : Nat) : Int) := by rw [Int.one_mul, pow_nat]
          have b8 : 2 ^ (i + 1) ≤ 8 := by rcases (by omega : i = 0 ∨ i = 1 ∨ i = 2) with rfl | rfl | rfl <;> decide
          walk_at "w"
          rw [e8, Int.toNat_natCast]
          have q9 := qR _ (Sub.refl _)
          obtain ⟨P, hP⟩ : ∃ P, 2 ^ (i + 1) = P := ⟨_, rfl⟩
          rw [hP] at b8 q9 ⊢
          exact ⟨by omega, by omega, q9⟩
        · obtain ⟨_, rfl⟩ := upto_get hx
          rw [Int.zero_add]
          show Apps lp h _ (fun h N => inW lp _ _ [some (.ref p), none, some (.int (s : Nat)), some (.int ((i + 1 : Nat) : Int)), some (.int (st : Nat)), some (.int (v : Nat))] h N)
          refine apps_inM (xs := [D.int 0, D.int 1]) rowD _ 2 (fun h2 R s2 qR => ?_) rfl (fun _ _ => trivial) fun b x hb hx => ?_
          · walk_at "w"
            exact qR _ (Sub.refl _)
          · rw [bits_at hx]
            show Apps lp h _ (fun h N => inW lp _ _ [some (.ref p), some (.int (b : Nat)), some (.int (s : Nat)), some (.int ((i + 1 : Nat) : Int)), some (.int (st : Nat)), some (.int (v : Nat))] h N)
            refine apps_leaf fp fun h2 R s2 qR => ?_
            have tp2 := tp.sub s2
            obtain ⟨f1, rp', f2, f3⟩ := id tp2
            walk_at "w"
            refine write_row_ok T tp2 hS (by omega) h1 (by omega) (by omega) (by omega) (by omega) (by omega) (by omega) (pow_lt hv) ?_
            exact qR _ (Sub.refl _)
  · exact rt_go (by assumption) (q lp h' f s e)
theorem go_rows_ok (T : Tx K mg) {h : DH} {Q : QD} {Qx : QX} {p mp : Addr} {m : Int} {S W : Nat} {rs : List Rw} (tp : TwoPre T h p mp m S W rs) (hS : S ≤ 4000) (h0 : 1 ≤ W) (h1 : W ≤ 4) (hL : loS S W ≤ 4000)
    (q : ∀ lp h', h lp = none → Sub h h' → h' lp = some (.lst ((goRows S W).map rowD)) → Q (.ref lp) h') : W_TwoMarksddgo_rows T [.ref p] h Q Qx := by
  obtain ⟨e1, rp, e2, e3⟩ := id tp
  walk_at "wf"
  rw [show (((W : Nat) : Int) - 1).toNat = W - 1 by omega]
  refine lcN_appsM rowD (fun i => (List.range S).flatMap fun st => (List.range 2).flatMap fun s => (List.range 2).flatMap fun b => [goRow (S : Nat) W (st : Nat) (s : Nat) (i + 1) (b : Nat)]) (W - 1) (upto_len _ _) (fun _ _ => trivial) ?_ (fun lp fp i x hn hx => ?_) fun lp h' f s e => ?_
  · have := go_len (S := S) (W := W)
    unfold goRows at this
    rw [this]
    rcases loS_is (S := S) h0 h1 with ⟨e, e5⟩ | ⟨e, e5⟩ | ⟨e, e5⟩ | ⟨e, e5⟩ <;> (rw [e]; simp only [Nat.reducePow, Nat.reduceSub, Nat.reduceMul]; omega)
  · obtain ⟨_, rfl⟩ := upto_get hx
    rw [show (1 : Int) + (i : Nat) = ((i + 1 : Nat) : Int) by omega]
    show Apps lp h _ (fun h N => inW lp _ _ [some (.ref p), none, some (.int ((i + 1 : Nat) : Int)), none, none] h N)
    refine apps_inM rowD _ S (fun h2 R s2 qR => ?_) (upto_len 0 _) (fun _ _ => trivial) fun st x hst hx => ?_
    · have tp2 := tp.sub s2
      obtain ⟨f1, rp', f2, f3⟩ := id tp2
      walk_at "w"
      exact qR _ (Sub.refl _)
    · obtain ⟨_, rfl⟩ := upto_get hx
      rw [Int.zero_add]
      show Apps lp h _ (fun h N => inW lp _ _ [some (.ref p), none, some (.int ((i + 1 : Nat) : Int)), none, some (.int (st : Nat))] h N)
      refine apps_inM (xs := [D.int 0, D.int 1]) rowD _ 2 (fun h2 R s2 qR => ?_) rfl (fun _ _ => trivial) fun s x hs hx => ?_
      · walk_at "w"
        exact qR _ (Sub.refl _)
      · rw [bits_at hx]
        show Apps lp h _ (fun h N => inW lp _ _ [some (.ref p), none, some (.int ((i + 1 : Nat) : Int)), some (.int (s : Nat)), some (.int (st : Nat))] h N)
        refine apps_inM (xs := [D.int 0, D.int 1]) rowD _ 2 (fun h2 R s2 qR => ?_) rfl (fun _ _ => trivial) fun b x hb hx => ?_
        · walk_at "w"
          exact qR _ (Sub.refl _)
        · rw [bits_at hx]
          show Apps lp h _ (fun h N => inW lp _ _ [some (.ref p), some (.int (b : Nat)), some (.int ((i + 1 : Nat) : Int)), some (.int (s : Nat)), some (.int (st : Nat))] h N)
          refine apps_leaf fp fun h2 R s2 qR => ?_
          have tp2 := tp.sub s2
          obtain ⟨f1, rp', f2, f3⟩ := id tp2
          walk_at "w"
          refine go_row_ok T tp2 hS (by omega) h1 (by omega) (by omega) (by omega) (by omega) (by omega) ?_
          exact qR _ (Sub.refl _)
  · exact rt_go (by assumption) (q lp h' f s e)
/-! the stair is made -/
abbrev twoF3 (mp lp : Addr) (W : Nat) : List (Str × D) := [("upper", .ref mp), ("_width", .int (W : Nat)), ("lower", .ref lp)]
/-- a stair in the heap -/
def IsTwo (T : Tx K mg) (h : DH) (p : Addr) (m : Int) (S : Nat) (rs : List Rw) : Prop := ∃ mp lp, h p = some (.ins T.C_TwoMarks (twoF3 mp lp (wd m))) ∧ IsTape T h mp m (S : Nat) rs ∧ IsTape T h lp 2 (loS S (wd m) : Nat) (lowRows S (wd m) m rs)
theorem IsTwo.sub {T : Tx K mg} {h h' : DH} {p : Addr} {m : Int} {S : Nat} {rs : List Rw} (a : IsTwo T h p m S rs) (b : Sub h h') : IsTwo T h' p m S rs := by
  obtain ⟨mp, lp, e1, e2, e3⟩ := a
  exact ⟨mp, lp, b _ _ e1, e2.sub b, e3.sub b⟩
theorem two_make (T : Tx K mg) {h : DH} {Q : QD} {Qx : QX} {mp : Addr} {m : Int} {S : Nat} {rs : List Rw} (it : IsTape T h mp m (S : Nat) rs) (hm : 2 ≤ m) (hm' : m ≤ 16) (hS1 : 1 ≤ S) (hl : rs.length = (m * (S : Nat)).toNat) (ok : ∀ r ∈ rs, RowOk m (S : Nat) r) (hL : loS S (wd m) ≤ 4000)
    (q : ∀ p h', Sub h h' → h p = none → IsTwo T h' p m S rs → Q (.ref p) h') : Make T.C_TwoMarks (W_TwoMarksdd_initdd T) [.ref mp] h Q Qx := by
  obtain ⟨rp, i1, i2⟩ := id it
  unfold tapeF at i1
  have hw := wd_cases hm hm'
  have hS : S ≤ 4000 := by rcases loS_is (S := S) (by omega : 1 ≤ wd m) (by omega) with ⟨e, e5⟩ | ⟨e, e5⟩ | ⟨e, e5⟩ | ⟨e, e5⟩ <;> omega
  have st : ((S : Nat) : Int) * (3 * (1 * 2 ^ wd m) + 2 * (wd m : Nat) - 7) = (loS S (wd m) : Nat) := by
    rcases loS_is (S := S) (by omega : 1 ≤ wd m) (by omega) with ⟨e, e5⟩ | ⟨e, e5⟩ | ⟨e, e5⟩ | ⟨e, e5⟩ <;> (rw [e] at e5 ⊢; rw [e5]; simp only [Int.reducePow, Int.reduceMul]; omega)
  have pw : (1 : Int) * 2 ^ wd m ≤ 16 ∧ 0 ≤ (1 : Int) * 2 ^ wd m := by
    rcases hw with ⟨e, _⟩ | ⟨e, _⟩ | ⟨e, _⟩ | ⟨e, _⟩ <;> (rw [e]; decide)
  intro p f
  have i1' := dup_old (o := .ins T.C_TwoMarks []) i1 f
  have i2' := dup_old (o := .ins T.C_TwoMarks []) i2 f
  walk_at "wf"
  rw [st]
  have e0 : dup h p (.ins T.C_TwoMarks (twoF mp (wd m))) p = some (.ins T.C_TwoMarks (twoF mp (wd m))) := dup_same
  have s0 : Sub h (dup h p (.ins T.C_TwoMarks (twoF mp (wd m)))) := Sub.new f
  show W_TwoMarksddread_rows T [D.ref p] (dup h p (.ins T.C_TwoMarks (twoF mp (wd m)))) _ _
  generalize hh0 : dup h p (.ins T.C_TwoMarks (twoF mp (wd m))) = h0 at e0 s0
  have tp0 : TwoPre T h0 p mp m S (wd m) rs := ⟨e0, it.sub s0⟩
  refine read_rows_ok T tp0 hS hm hm' rfl hl ok hL fun l1 h1 f1 s1 e1 => ?_
  walk_at "w"
  refine write_rows_ok T (tp0.sub s1) hS (by omega) (by omega) hL fun l2 h2 f2 s2 e2 => ?_
  have b1 : ((readRows S (wd m) m rs).map rowD).length ≤ 10000 := by
    rw [List.length_map, read_len (by omega : 1 ≤ wd m) (by omega)]
    rcases loS_is (S := S) (by omega : 1 ≤ wd m) (by omega) with ⟨e, e5⟩ | ⟨e, e5⟩ | ⟨e, e5⟩ | ⟨e, e5⟩ <;> (rw [e]; simp only [Nat.reducePow, Nat.reduceSub, Nat.reduceMul]; omega)
  have b2 : ((writeRows S (wd m)).map rowD).length ≤ 10000 := by
    rw [List.length_map, write_len]
    rcases loS_is (S := S) (by omega : 1 ≤ wd m) (by omega) with ⟨e, e5⟩ | ⟨e, e5⟩ | ⟨e, e5⟩ | ⟨e, e5⟩ <;> (rw [e]; simp only [Nat.reducePow, Nat.reduceSub, Nat.reduceMul]; omega)
  have b3 : ((goRows S (wd m)).map rowD).length ≤ 20000 := by
    rw [List.length_map, go_len]
    rcases loS_is (S := S) (by omega : 1 ≤ wd m) (by omega) with ⟨e, e5⟩ | ⟨e, e5⟩ | ⟨e, e5⟩ | ⟨e, e5⟩ <;> (rw [e]; simp only [Nat.reducePow, Nat.reduceSub, Nat.reduceMul]; omega)
  have a1 := s2 _ _ e1
  refine gAddL_i a1 e2 (by show _ ≤ 16777216; omega) ?_
  walk_at "w"
  rename Addr => l3
  rename DH => h3
  rename h3 l3 = _ => e3
  rename Sub h2 h3 => s3
  refine go_rows_ok T (tp0.sub (by walk_at "ws")) hS (by omega) (by omega) hL fun l4 h4 f4 s4 e4 => ?_
  have a3 := s4 _ _ e3
  refine gAddL_i a3 e4 (by rw [List.length_append]; show _ ≤ 16777216; omega) ?_
  walk_at "w"
  rename Addr => l5
  rename DH => h5
  rename h5 l5 = _ => e5
  rename Sub h4 h5 => s5
  have ll := low_len (S := S) (W := wd m) (m := m) (rs := rs) (by omega) (by omega)
  rw [show (readRows S (wd m) m rs).map rowD ++ (writeRows S (wd m)).map rowD ++ (goRows S (wd m)).map rowD = (lowRows S (wd m) m rs).map rowD by unfold lowRows; rw [List.map_append, List.map_append]] at e5
  have l1 : 1 ≤ loS S (wd m) := by rcases loS_is (S := S) (by omega : 1 ≤ wd m) (by omega) with ⟨e, e5⟩ | ⟨e, e5⟩ | ⟨e, e5⟩ | ⟨e, e5⟩ <;> omega
  refine tape_make T (by decide) (by decide) (by omega) (by omega) e5 (by rw [ll]; omega) (low_ok hm hm' rfl ok) fun lp h6 s6 f6 il => ?_
  have e6 : h6 p = some (.ins T.C_TwoMarks (twoF mp (wd m))) := by walk_at "wh"
  have sb : Sub h h6 := by walk_at "ws"
  walk_at "w"
  obtain ⟨rp2, j1, j2⟩ := il
  have e55 : h5 p = some (.ins T.C_TwoMarks (twoF mp (wd m))) := by walk_at "wh"
  have n1 : lp ≠ p := fun z => by rw [z, e55] at f6; cases f6
  have n2 : rp2 ≠ p := fun z => by rw [z, e6] at j2; cases j2
  exact q p _ (sub_dup0 sb f) f ⟨mp, lp, dup_same, it.sub (sub_dup0 sb f), rp2, by rw [dup_ne n1]; exact j1, by rw [dup_ne n2]; exact j2⟩
/-! down and up in bits, without the kit -/
def rvb (rev : Bool) (p : List Int) : List Int := if rev = true then p.reverse else p
theorem rvb_rvb {rev : Bool} {p : List Int} : rvb rev (rvb rev p) = p := by cases rev <;> simp [rvb]
theorem rvb_len {rev : Bool} {p : List Int} : (rvb rev p).length = p.length := by cases rev <;> simp [rvb]
theorem rvb_mem {rev : Bool} {p : List Int} {x : Int} : x ∈ rvb rev p ↔ x ∈ p := by cases rev <;> simp [rvb]
def dnB (rev : Bool) (W : Nat) (l : List Int) : List Int := l.flatMap fun x => rvb rev (blk W x)
def dnC (W : Nat) (c : Cfg) : Cfg := ⟨c.st, tz (dnB true W c.l), (blk W c.md).headD 0, tz ((blk W c.md).tail ++ dnB false W c.r)⟩
def cnt (W n : Nat) : Nat := HT.cntSt 0 W n
theorem cnt_eq {W n : Nat} : cnt W n = if 0 < n then (n - 1) / W + 1 else 0 := by
  unfold cnt HT.cntSt
  split <;> simp
def pc (W : Nat) (bs : List Int) (j : Nat) : List Int := (bs.drop (j * W)).take W
def pcs (W : Nat) (bs : List Int) : List (List Int) := (List.range (cnt W bs.length)).map (pc W (bs ++ List.replicate W 0))
def vsB (rev : Bool) (W : Nat) (bs : List Int) : List Int := (pcs W bs).map fun p => vB (rvb rev p)
def okV (m : Int) (vs : List Int) : Bool := vs.all fun v => decide (v < m)
def upC (m : Int) (S : Int) (W : Nat) (c : Cfg) : Option Cfg := if c.st < S ∧ okV m (vsB true W c.l) = true ∧ okV m (vsB false W (c.md :: c.r)) = true then some ⟨c.st, tz (vsB true W c.l), (vsB false W (c.md :: c.r)).headD 0, tz (vsB false W (c.md :: c.r)).tail⟩ else none
theorem dnB_len {rev : Bool} {W : Nat} : ∀ {l : List Int}, (dnB rev W l).length = l.length * W
  | [] => by rw [List.length_nil, Nat.zero_mul]; rfl
  | x :: l => by
    have ih := dnB_len (rev := rev) (W := W) (l := l)
    unfold dnB at ih ⊢
    rw [List.flatMap_cons, List.length_append, ih, rvb_len, blk_len, List.length_cons, Nat.succ_mul, Nat.add_comm]
theorem dnB_bit {rev : Bool} {W : Nat} {l : List Int} : ∀ b ∈ dnB rev W l, b = 0 ∨ b = 1 := fun b hb => by
  obtain ⟨x, _, hx⟩ := List.mem_flatMap.mp hb
  exact blk_bit b (rvb_mem.mp hx)
theorem dnB_pc {rev : Bool} {W : Nat} : ∀ {l : List Int} {j : Nat} {Z : List Int} (hj : j < l.length), pc W (dnB rev W l ++ Z) j = rvb rev (blk W l[j])
  | x :: l, 0, Z, _ => by
    unfold pc dnB
    rw [Nat.zero_mul, List.drop_zero, List.flatMap_cons, List.append_assoc, List.take_left' (by rw [rvb_len, blk_len])]; rfl
  | x :: l, j + 1, Z, hj => by
    have ih := dnB_pc (rev := rev) (W := W) (l := l) (j := j) (Z := Z) (by simpa using hj)
    unfold pc dnB at ih ⊢
    rw [List.flatMap_cons, List.append_assoc, Nat.succ_mul, Nat.add_comm, ← List.drop_drop, List.drop_left' (by rw [rvb_len, blk_len]), ih]; rfl
theorem cnt_of {W n len : Nat} (hW : 0 < W) (h1 : len ≤ n * W) (h2 : n * W < len + W) : cnt W len = n := by
  rw [cnt_eq]
  split
  · have : (len - 1) / W = n - 1 := by
      refine Nat.div_eq_of_lt_le ?_ ?_
      · cases n with
        | zero => omega
        | succ n => rw [Nat.succ_mul] at *; rw [Nat.add_sub_cancel]; omega
      · cases n with
        | zero => omega
        | succ n => rw [Nat.add_sub_cancel]; rw [Nat.succ_mul] at *; omega
    rw [this]
    cases n with
    | zero => omega
    | succ n => omega
  · cases n with
    | zero => rfl
    | succ n => rw [Nat.succ_mul] at h2; omega
/-- what is read off again -/
theorem img {rev : Bool} {W : Nat} {m : Int} {ls zs : List Int} {k : Nat} (hW : 0 < W) (hls : ∀ x ∈ ls, 0 ≤ x ∧ x < 2 ^ W) (e : dnB rev W ls = zs ++ List.replicate k 0) (hk : k < W) : vsB rev W zs = ls := by
  have len := congrArg List.length e
  rw [dnB_len, List.length_append, List.length_replicate] at len
  have hc : cnt W zs.length = ls.length := cnt_of hW (by omega) (by omega)
  have e2 : zs ++ List.replicate W 0 = dnB rev W ls ++ List.replicate (W - k) 0 := by
    rw [e, List.append_assoc, List.replicate_append_replicate, show k + (W - k) = W by omega]
  unfold vsB pcs
  rw [hc, e2, List.map_map]
  refine List.ext_getElem (by simp) fun j h1 h2 => ?_
  rw [List.getElem_map, List.getElem_range]
  show vB (rvb rev (pc W _ j)) = _
  rw [dnB_pc h2, rvb_rvb]
  obtain ⟨a, b⟩ := hls _ (List.getElem_mem h2)
  exact vB_blk a b
theorem tz_ex : ∀ (B : List Int), (∀ x ∈ B, 0 ≤ x) → ∃ k, B = tz B ++ List.replicate k 0
  | [], _ => ⟨0, rfl⟩
  | x :: xs, h => by
    obtain ⟨k, hk⟩ := tz_ex xs fun y hy => h y (List.mem_cons_of_mem _ hy)
    have x0 := h x List.mem_cons_self
    by_cases c : tz xs = []
    · rw [tz_nil c]
      rw [c, List.nil_append] at hk
      by_cases p : 0 < x
      · rw [if_pos p]; exact ⟨k, by rw [hk]; simp⟩
      · rw [if_neg p]
        refine ⟨k + 1, ?_⟩
        rw [List.nil_append, List.replicate_succ, ← hk, show x = 0 by omega]
    · rw [tz_cons c]
      exact ⟨k, by rw [List.cons_append, ← hk]⟩
theorem tz_app {B : List Int} (h : tz B ≠ []) : ∀ (A : List Int), tz (A ++ B) = A ++ tz B
  | [] => rfl
  | a :: A => by
    rw [List.cons_append, tz_cons (by rw [tz_app h A]; exact fun z => h (List.append_eq_nil_iff.mp z).2), tz_app h A]; rfl
theorem vB_zero (l : List Int) : (∀ b ∈ l, b = 0) → vB l = 0 := by
  refine snoc_ind (P := fun l => (∀ b ∈ l, b = 0) → vB l = 0) (fun _ => rfl) (fun l b ih h => ?_) l
  rw [vB_snoc, ih fun x hx => h x (List.mem_append_left _ hx), h b (List.mem_append_right _ List.mem_cons_self)]; rfl
theorem blk_tz {rev : Bool} {W : Nat} {x : Int} (h0 : 0 < x) (h1 : x < 2 ^ W) : tz (rvb rev (blk W x)) ≠ [] := fun e => by
  have no := (tz_empty _).mp e
  have z : ∀ b ∈ blk W x, b = 0 := fun b hb => by
    rcases blk_bit b hb with e | e
    · exact e
    · exact (no ⟨b, rvb_mem.mpr hb, by omega⟩).elim
  have := vB_zero _ z
  rw [vB_blk (by omega) h1] at this
  omega
theorem last_pos {l : List Int} (hl : tz l = l) (h0 : ∀ x ∈ l, 0 ≤ x) (hn : l ≠ []) : ∃ l' x, l = l' ++ [x] ∧ 0 < x := by
  refine ⟨l.dropLast, l.getLast hn, (List.dropLast_concat_getLast hn).symm, ?_⟩
  have e := (List.dropLast_concat_getLast hn).symm
  have x0 := h0 _ (List.getLast_mem hn)
  rcases Int.lt_or_eq_of_le x0 with h | h
  · exact h
  · rw [← h] at e
    have := hl
    rw [e, tz_append_zero] at this
    have l1 := congrArg List.length this
    have l2 := tz_le l.dropLast
    rw [List.length_append, List.length_singleton] at l1
    omega
theorem tz_blk_k {rev : Bool} {W : Nat} {x : Int} (h0 : 0 < x) (h1 : x < 2 ^ W) : ∃ k, rvb rev (blk W x) = tz (rvb rev (blk W x)) ++ List.replicate k 0 ∧ k < W := by
  obtain ⟨k, hk⟩ := tz_ex (rvb rev (blk W x)) fun y hy => by rcases blk_bit y (rvb_mem.mp hy) with e | e <;> omega
  refine ⟨k, hk, ?_⟩
  have l1 := congrArg List.length hk
  rw [rvb_len, blk_len, List.length_append, List.length_replicate] at l1
  have := List.length_pos_iff.mpr (blk_tz (rev := rev) h0 h1)
  omega
theorem dnB_app {rev : Bool} {W : Nat} {l : List Int} {x : Int} : dnB rev W (l ++ [x]) = dnB rev W l ++ rvb rev (blk W x) := by unfold dnB; rw [List.flatMap_append, List.flatMap_singleton]
theorem img_side {rev : Bool} {W : Nat} {l : List Int} (A : List Int) (hW : 0 < W) (hl : tz l = l) (hb : ∀ x ∈ l, 0 ≤ x ∧ x < 2 ^ W) (hn : l ≠ []) : ∃ k, A ++ dnB rev W l = tz (A ++ dnB rev W l) ++ List.replicate k 0 ∧ k < W ∧ ∃ B, tz (A ++ dnB rev W l) = A ++ B := by
  obtain ⟨l', x, rfl, hx⟩ := last_pos hl (fun x hx => (hb x hx).1) hn
  have x1 := (hb x (List.mem_append_right _ List.mem_cons_self)).2
  obtain ⟨k, e, hk⟩ := tz_blk_k (rev := rev) hx x1
  refine ⟨k, ?_, hk, dnB rev W l' ++ tz (rvb rev (blk W x)), ?_⟩
  · rw [dnB_app, ← List.append_assoc, tz_app (blk_tz hx x1), List.append_assoc (A ++ dnB rev W l'), ← e]
  · rw [dnB_app, ← List.append_assoc, tz_app (blk_tz hx x1), List.append_assoc]
theorem up_dn {m : Int} {S : Nat} {c : Cfg} {W : Nat} (hW : 1 ≤ W) (hm : m ≤ 2 ^ W) (ok : CfgOk m (S : Nat) c) : upC m (S : Nat) W (dnC W c) = some c := by
  obtain ⟨st, l, md, r⟩ := c
  obtain ⟨s0, s1, m0, m1, ⟨l0, l1⟩, ⟨r0, r1⟩⟩ := ok
  have s1 : st < (S : Nat) := s1
  have m0 : 0 ≤ md := m0
  have m1 : md < m := m1
  have l1 : tz l = l := l1
  have r1 : tz r = r := r1
  have hb : ∀ x ∈ l, 0 ≤ x ∧ x < 2 ^ W := fun x hx => by have := l0 x hx; omega
  have hr : ∀ x ∈ r, 0 ≤ x ∧ x < 2 ^ W := fun x hx => by have := r0 x hx; omega
  have eL : vsB true W (tz (dnB true W l)) = l := by
    by_cases hn : l = []
    · subst hn
      unfold vsB pcs
      rw [show tz (dnB true W []) = [] from rfl, List.length_nil, show cnt W 0 = 0 by rw [cnt_eq]; rfl]; rfl
    · obtain ⟨k, e, hk, _⟩ := img_side (rev := true) (W := W) [] (by omega) l1 hb hn
      exact img (m := m) (by omega) hb e hk
  have hd : blk W md = (blk W md).headD 0 :: (blk W md).tail := by
    cases e : blk W md with
    | nil => have := blk_len (n := W) (x := md); rw [e] at this; simp at this; omega
    | cons a t => rfl
  have eR : vsB false W ((blk W md).headD 0 :: tz ((blk W md).tail ++ dnB false W r)) = md :: r := by
    have hmr : ∀ x ∈ md :: r, 0 ≤ x ∧ x < 2 ^ W := fun x hx => by
      rcases List.mem_cons.mp hx with rfl | hx
      · omega
      · exact hr x hx
    have full : dnB false W (md :: r) = (blk W md).headD 0 :: ((blk W md).tail ++ dnB false W r) := by
      rw [← List.cons_append, ← hd]; rfl
    by_cases hn : r = []
    · subst hn
      obtain ⟨k, e⟩ := tz_ex (blk W md).tail fun y hy => by rcases blk_bit y (List.mem_of_mem_tail hy) with e | e <;> omega
      have l2 := congrArg List.length e
      rw [List.length_append, List.length_replicate, List.length_tail, blk_len] at l2
      refine img (k := k) (m := m) (by omega) hmr ?_ (by omega)
      rw [full, show dnB false W [] = [] from rfl, List.append_nil, List.cons_append, ← e]
    · obtain ⟨k, e, hk, _⟩ := img_side (rev := false) (W := W) (blk W md).tail (by omega) r1 hr hn
      refine img (k := k) (m := m) (by omega) hmr ?_ hk
      rw [full, List.cons_append, ← e]
  have okl : okV m l = true := List.all_eq_true.mpr fun x hx => decide_eq_true (l0 x hx).2
  have okr : okV m (md :: r) = true := List.all_eq_true.mpr fun x hx => by
    rcases List.mem_cons.mp hx with rfl | hx
    · exact decide_eq_true m1
    · exact decide_eq_true (r0 x hx).2
  unfold upC dnC
  dsimp only
  rw [eL, eR, if_pos ⟨s1, okl, okr⟩, l1, List.tail_cons, r1]; rfl
/-! steps of the machine with two marks, without the kit -/
theorem fm_sum {α : Type} {f : Nat → List α} {off : Nat → Nat} (h0 : off 0 = 0) (hs : ∀ i, off (i + 1) = off i + (f i).length) : ∀ n, ((List.range n).flatMap f).length = off n
  | 0 => h0.symm
  | n + 1 => by rw [List.range_succ, List.flatMap_append, List.length_append, fm_sum h0 hs n, List.flatMap_singleton, hs]
theorem fm_at {α : Type} {f : Nat → List α} {off : Nat → Nat} (h0 : off 0 = 0) (hs : ∀ i, off (i + 1) = off i + (f i).length) : ∀ {n i r : Nat}, i < n → r < (f i).length → ((List.range n).flatMap f)[off i + r]? = (f i)[r]?
  | 0, _, _, h, _ => by omega
  | n + 1, i, r, h, hr => by
    have len := fm_sum h0 hs n
    rw [List.range_succ, List.flatMap_append, List.flatMap_singleton]
    by_cases e : i = n
    · subst e
      rw [List.getElem?_append_right (by omega), len]
      congr 1
      omega
    · have mono : ∀ a b, a ≤ b → off a ≤ off b := fun a b hab => by
        induction hab with
        | refl => exact Nat.le_refl _
        | step _ ih => rw [hs]; omega
      have := mono (i + 1) n (by omega)
      rw [hs] at this
      rw [List.getElem?_append_left (by omega)]
      exact fm_at h0 hs (by omega) hr
theorem fm_uni {α : Type} {f : Nat → List α} {k n i r : Nat} (h : ∀ i, (f i).length = k) (hi : i < n) (hr : r < k) : ((List.range n).flatMap f)[i * k + r]? = (f i)[r]? :=
  fm_at (off := fun i => i * k) (Nat.zero_mul _) (fun i => by rw [h, Nat.succ_mul]) hi (by rw [h]; exact hr)
theorem pow_off {S c n : Nat} : c * S * (2 ^ (n + 1) - 1) = c * S * (2 ^ n - 1) + c * (S * 2 ^ n) := by
  have p0 : 0 < 2 ^ n := Nat.two_pow_pos n
  rw [Nat.pow_succ]
  generalize 2 ^ n = P at p0
  obtain ⟨P, rfl⟩ : ∃ R, P = R + 1 := ⟨P - 1, by omega⟩
  rw [show P + 1 - 1 = P by omega, show (P + 1) * 2 - 1 = P + (P + 1) by omega, Nat.mul_add, Nat.mul_assoc c S (P + 1)]
theorem read_at {S W n st v b : Nat} {m : Int} {rs : List Rw} (hn : n < W) (hst : st < S) (hv : v < 2 ^ n) (hb : b < 2) : (readRows S W m rs)[2 * S * (2 ^ n - 1) + (st * (2 ^ n * (2 * 1)) + (v * (2 * 1) + (b * 1 + 0)))]? = some (readRow (S : Nat) W m rs (st : Nat) n (v : Nat) (b : Nat)) := by
  have l3 : ∀ n st v : Nat, ((List.range 2).flatMap fun b => [readRow (S : Nat) W m rs (st : Nat) n (v : Nat) (b : Nat)]).length = 2 * 1 := fun n st v => fm_len fun _ _ => rfl
  have l2 : ∀ n st : Nat, ((List.range (2 ^ n)).flatMap fun v => (List.range 2).flatMap fun b => [readRow (S : Nat) W m rs (st : Nat) n (v : Nat) (b : Nat)]).length = 2 ^ n * (2 * 1) := fun n st => fm_len fun _ _ => l3 _ _ _
  have l1 : ∀ n : Nat, ((List.range S).flatMap fun st => (List.range (2 ^ n)).flatMap fun v => (List.range 2).flatMap fun b => [readRow (S : Nat) W m rs (st : Nat) n (v : Nat) (b : Nat)]).length = S * (2 ^ n * (2 * 1)) := fun n => fm_len fun _ _ => l2 _ _
  have r3 : v * (2 * 1) + (b * 1 + 0) < 2 ^ n * (2 * 1) := by omega
  have r2 : st * (2 ^ n * (2 * 1)) + (v * (2 * 1) + (b * 1 + 0)) < S * (2 ^ n * (2 * 1)) := by
    have := Nat.mul_le_mul_right (2 ^ n * (2 * 1)) (show st + 1 ≤ S by omega)
    rw [Nat.succ_mul] at this
    omega
  unfold readRows
  rw [fm_at (off := fun n => 2 * S * (2 ^ n - 1)) rfl (fun i => by rw [l1, pow_off]; congr 1; rw [Nat.mul_one, Nat.mul_comm 2, Nat.mul_assoc]) hn (by rw [l1]; exact r2), fm_uni (fun _ => l2 _ _) hst r3, fm_uni (fun _ => l3 _ _ _) hv (by omega), fm_uni (k := 1) (fun _ => rfl) hb (by decide)]
  rfl
theorem write_at {S W i st s v b : Nat} (hi : i < W - 1) (hst : st < S) (hs : s < 2) (hv : v < 2 ^ (i + 1)) (hb : b < 2) : (writeRows S W)[8 * S * (2 ^ i - 1) + (st * (2 * (2 ^ (i + 1) * (2 * 1))) + (s * (2 ^ (i + 1) * (2 * 1)) + (v * (2 * 1) + (b * 1 + 0))))]? = some (writeRow (S : Nat) W (st : Nat) (s : Nat) (i + 1) (v : Nat)) := by
  have l4 : ∀ i st s v : Nat, ((List.range 2).flatMap fun _ => [writeRow (S : Nat) W (st : Nat) (s : Nat) (i + 1) (v : Nat)]).length = 2 * 1 := fun _ _ _ _ => fm_len fun _ _ => rfl
  have l3 : ∀ i st s : Nat, ((List.range (2 ^ (i + 1))).flatMap fun v => (List.range 2).flatMap fun _ => [writeRow (S : Nat) W (st : Nat) (s : Nat) (i + 1) (v : Nat)]).length = 2 ^ (i + 1) * (2 * 1) := fun _ _ _ => fm_len fun _ _ => l4 _ _ _ _
  have l2 : ∀ i st : Nat, ((List.range 2).flatMap fun s => (List.range (2 ^ (i + 1))).flatMap fun v => (List.range 2).flatMap fun _ => [writeRow (S : Nat) W (st : Nat) (s : Nat) (i + 1) (v : Nat)]).length = 2 * (2 ^ (i + 1) * (2 * 1)) := fun _ _ => fm_len fun _ _ => l3 _ _ _
  have l1 : ∀ i : Nat, ((List.range S).flatMap fun st => (List.range 2).flatMap fun s => (List.range (2 ^ (i + 1))).flatMap fun v => (List.range 2).flatMap fun _ => [writeRow (S : Nat) W (st : Nat) (s : Nat) (i + 1) (v : Nat)]).length = S * (2 * (2 ^ (i + 1) * (2 * 1))) := fun _ => fm_len fun _ _ => l2 _ _
  have r4 : v * (2 * 1) + (b * 1 + 0) < 2 ^ (i + 1) * (2 * 1) := by omega
  have r3 : s * (2 ^ (i + 1) * (2 * 1)) + (v * (2 * 1) + (b * 1 + 0)) < 2 * (2 ^ (i + 1) * (2 * 1)) := by
    rcases (by omega : s = 0 ∨ s = 1) with rfl | rfl <;> omega
  have r2 : st * (2 * (2 ^ (i + 1) * (2 * 1))) + (s * (2 ^ (i + 1) * (2 * 1)) + (v * (2 * 1) + (b * 1 + 0))) < S * (2 * (2 ^ (i + 1) * (2 * 1))) := by
    have := Nat.mul_le_mul_right (2 * (2 ^ (i + 1) * (2 * 1))) (show st + 1 ≤ S by omega)
    rw [Nat.succ_mul] at this
    omega
  unfold writeRows
  rw [fm_at (off := fun n => 8 * S * (2 ^ n - 1)) rfl (fun i => by rw [l1, pow_off]; congr 1; rw [Nat.pow_succ, show 2 * (2 ^ i * 2 * (2 * 1)) = 8 * 2 ^ i by omega, Nat.mul_left_comm]) hi (by rw [l1]; exact r2), fm_uni (fun _ => l2 _ _) hst r3, fm_uni (fun _ => l3 _ _ _) hs r4, fm_uni (fun _ => l4 _ _ _ _) hv (by omega), fm_uni (k := 1) (fun _ => rfl) hb (by decide)]
  rfl
theorem go_at {S W i st s b : Nat} (hi : i < W - 1) (hst : st < S) (hs : s < 2) (hb : b < 2) : (goRows S W)[i * (S * (2 * (2 * 1))) + (st * (2 * (2 * 1)) + (s * (2 * 1) + (b * 1 + 0)))]? = some (goRow (S : Nat) W (st : Nat) (s : Nat) (i + 1) (b : Nat)) := by
  have l3 : ∀ i st s : Nat, ((List.range 2).flatMap fun b => [goRow (S : Nat) W (st : Nat) (s : Nat) (i + 1) (b : Nat)]).length = 2 * 1 := fun _ _ _ => fm_len fun _ _ => rfl
  have l2 : ∀ i st : Nat, ((List.range 2).flatMap fun s => (List.range 2).flatMap fun b => [goRow (S : Nat) W (st : Nat) (s : Nat) (i + 1) (b : Nat)]).length = 2 * (2 * 1) := fun _ _ => fm_len fun _ _ => l3 _ _ _
  have l1 : ∀ i : Nat, ((List.range S).flatMap fun st => (List.range 2).flatMap fun s => (List.range 2).flatMap fun b => [goRow (S : Nat) W (st : Nat) (s : Nat) (i + 1) (b : Nat)]).length = S * (2 * (2 * 1)) := fun _ => fm_len fun _ _ => l2 _ _
  unfold goRows
  rw [fm_uni (fun _ => l1 _) hi (by omega), fm_uni (fun _ => l2 _ _) hst (by omega), fm_uni (fun _ => l3 _ _ _) hs (by omega), fm_uni (k := 1) (fun _ => rfl) hb (by decide)]
  rfl
/-- a row of the lower machine, by its state -/
theorem low_read {S W n : Nat} {st v b : Int} {m : Int} {rs : List Rw} {L R : List Int} (h0 : 1 ≤ W) (h1 : W ≤ 4) (hn : n < W) (s0 : 0 ≤ st) (s1 : st < (S : Nat)) (v0 : 0 ≤ v) (v1 : v < 2 ^ n) (hb : b = 0 ∨ b = 1) : rowAt 2 (lowRows S W m rs) ⟨rdI (S : Nat) st n v, L, b, R⟩ = readRow (S : Nat) W m rs st n v b := by
  obtain ⟨st, rfl⟩ := Int.eq_ofNat_of_zero_le s0
  obtain ⟨v, rfl⟩ := Int.eq_ofNat_of_zero_le v0
  obtain ⟨b, rfl⟩ := Int.eq_ofNat_of_zero_le (show 0 ≤ b by omega)
  have hv : v < 2 ^ n := by
    have e : ((2 ^ n : Nat) : Int) = (2 : Int) ^ n := pow_nat
    rw [← e] at v1; omega
  have key := read_at (m := m) (rs := rs) hn (show st < S by omega) hv (show b < 2 by omega)
  unfold rowAt
  have pos : ((rdI (S : Nat) (st : Nat) n (v : Nat)) * 2 + (b : Nat)).toNat = 2 * S * (2 ^ n - 1) + (st * (2 ^ n * (2 * 1)) + (v * (2 * 1) + (b * 1 + 0))) := by
    unfold rdI
    rcases (by omega : n = 0 ∨ n = 1 ∨ n = 2 ∨ n = 3) with rfl | rfl | rfl | rfl <;> (simp only [Int.reducePow, Int.reduceSub, Nat.reducePow, Nat.reduceSub, Nat.reduceMul]; omega)
  show ((lowRows S W m rs)[((rdI (S : Nat) (st : Nat) n (v : Nat)) * 2 + (b : Nat)).toNat]?).getD none = _
  rw [pos]
  unfold lowRows
  have lt : 2 * S * (2 ^ n - 1) + (st * (2 ^ n * (2 * 1)) + (v * (2 * 1) + (b * 1 + 0))) < (readRows S W m rs).length := (List.getElem?_eq_some_iff.mp key).1
  rw [List.append_assoc, List.getElem?_append_left lt, key]; rfl
theorem low_write {S W n : Nat} {t s v b : Int} {m : Int} {rs : List Rw} {L R : List Int} (h0 : 2 ≤ W) (h1 : W ≤ 4) (hn0 : 1 ≤ n) (hn : n < W) (s0 : 0 ≤ t) (s1 : t < (S : Nat)) (hs : s = 0 ∨ s = 1) (v0 : 0 ≤ v) (v1 : v < 2 ^ n) (hb : b = 0 ∨ b = 1) : rowAt 2 (lowRows S W m rs) ⟨wrI (S : Nat) W t s n v, L, b, R⟩ = writeRow (S : Nat) W t s n v := by
  obtain ⟨t, rfl⟩ := Int.eq_ofNat_of_zero_le s0
  obtain ⟨v, rfl⟩ := Int.eq_ofNat_of_zero_le v0
  obtain ⟨b, rfl⟩ := Int.eq_ofNat_of_zero_le (show 0 ≤ b by omega)
  obtain ⟨s, rfl⟩ := Int.eq_ofNat_of_zero_le (show 0 ≤ s by omega)
  obtain ⟨i, rfl⟩ : ∃ i, n = i + 1 := ⟨n - 1, by omega⟩
  have hv : v < 2 ^ (i + 1) := by
    have e : ((2 ^ (i + 1) : Nat) : Int) = (2 : Int) ^ (i + 1) := pow_nat
    rw [← e] at v1; omega
  have key := write_at (W := W) (show i < W - 1 by omega) (show t < S by omega) (show s < 2 by omega) hv (show b < 2 by omega)
  have rl := read_len (S := S) (m := m) (rs := rs) (by omega : 1 ≤ W) h1
  have lt := (List.getElem?_eq_some_iff.mp key).1
  have pos : ((wrI (S : Nat) W (t : Nat) (s : Nat) (i + 1) (v : Nat)) * 2 + (b : Nat)).toNat = 2 * S * (2 ^ W - 1) + (8 * S * (2 ^ i - 1) + (t * (2 * (2 ^ (i + 1) * (2 * 1))) + (s * (2 ^ (i + 1) * (2 * 1)) + (v * (2 * 1) + (b * 1 + 0))))) := by
    unfold wrI rdI
    rcases (by omega : s = 0 ∨ s = 1) with rfl | rfl <;> rcases (by omega : i = 0 ∨ i = 1 ∨ i = 2) with rfl | rfl | rfl <;> rcases (by omega : W = 2 ∨ W = 3 ∨ W = 4) with rfl | rfl | rfl <;> (simp only [Int.reducePow, Int.reduceSub, Nat.reducePow, Nat.reduceSub, Nat.reduceMul, Nat.reduceAdd]; omega)
  unfold rowAt
  show ((lowRows S W m rs)[((wrI (S : Nat) W (t : Nat) (s : Nat) (i + 1) (v : Nat)) * 2 + (b : Nat)).toNat]?).getD none = _
  rw [pos, ← rl]
  unfold lowRows
  rw [List.append_assoc, List.getElem?_append_right (Nat.le_add_right _ _), Nat.add_sub_cancel_left, List.getElem?_append_left lt, key]; rfl
theorem low_go {S W k : Nat} {t s b : Int} {m : Int} {rs : List Rw} {L R : List Int} (h0 : 2 ≤ W) (h1 : W ≤ 4) (hk0 : 1 ≤ k) (hk : k < W) (s0 : 0 ≤ t) (s1 : t < (S : Nat)) (hs : s = 0 ∨ s = 1) (hb : b = 0 ∨ b = 1) : rowAt 2 (lowRows S W m rs) ⟨goI (S : Nat) W t s (k : Nat), L, b, R⟩ = goRow (S : Nat) W t s k b := by
  obtain ⟨t, rfl⟩ := Int.eq_ofNat_of_zero_le s0
  obtain ⟨b, rfl⟩ := Int.eq_ofNat_of_zero_le (show 0 ≤ b by omega)
  obtain ⟨s, rfl⟩ := Int.eq_ofNat_of_zero_le (show 0 ≤ s by omega)
  obtain ⟨i, rfl⟩ : ∃ i, k = i + 1 := ⟨k - 1, by omega⟩
  have key := go_at (W := W) (show i < W - 1 by omega) (show t < S by omega) (show s < 2 by omega) (show b < 2 by omega)
  have rl := read_len (S := S) (m := m) (rs := rs) (by omega : 1 ≤ W) h1
  have wl := write_len (S := S) (W := W)
  have pos : ((goI (S : Nat) W (t : Nat) (s : Nat) ((i + 1 : Nat) : Int)) * 2 + (b : Nat)).toNat = 2 * S * (2 ^ W - 1) + (8 * S * (2 ^ (W - 1) - 1) + (i * (S * (2 * (2 * 1))) + (t * (2 * (2 * 1)) + (s * (2 * 1) + (b * 1 + 0))))) := by
    unfold goI wrI rdI
    rcases (by omega : s = 0 ∨ s = 1) with rfl | rfl <;> rcases (by omega : i = 0 ∨ i = 1 ∨ i = 2) with rfl | rfl | rfl <;> rcases (by omega : W = 2 ∨ W = 3 ∨ W = 4) with rfl | rfl | rfl <;> (simp only [Int.reducePow, Int.reduceSub, Nat.reducePow, Nat.reduceSub, Nat.reduceMul, Nat.reduceAdd]; omega)
  unfold rowAt
  show ((lowRows S W m rs)[((goI (S : Nat) W (t : Nat) (s : Nat) ((i + 1 : Nat) : Int)) * 2 + (b : Nat)).toNat]?).getD none = _
  rw [pos, ← rl, ← wl]
  unfold lowRows
  rw [List.append_assoc, List.getElem?_append_right (Nat.le_add_right _ _), Nat.add_sub_cancel_left, List.getElem?_append_right (Nat.le_add_right _ _), Nat.add_sub_cancel_left, key]; rfl
/-! down and up, walked -/
theorem cut_ab {xs : List D} {a b : Nat} (h : a ≤ b) : DL.cutD xs (some (a : Int)) (some (b : Int)) = (xs.drop a).take (b - a) := by
  unfold DL.cutD
  rw [HT.sIx_nat, HT.sIx_nat]
  rcases Nat.le_total a xs.length with z | z
  · rw [Nat.min_eq_left z]
    rcases Nat.le_total b xs.length with y | y
    · rw [Nat.min_eq_left y]
    · rw [Nat.min_eq_right y, List.take_of_length_le (by rw [List.length_drop]; exact Nat.le_refl _), List.take_of_length_le (by rw [List.length_drop]; omega)]
  · rw [Nat.min_eq_right z, List.drop_eq_nil_of_le (Nat.le_refl _), List.drop_eq_nil_of_le z, List.take_nil, List.take_nil]
theorem markof_ok (T : Tx K mg) {h : DH} {Q : QD} {Qx : QX} {m : Int} {bs : List Int} (h0 : 2 ≤ m) (h1 : m ≤ 16) (hb : ∀ b ∈ bs, b = 0 ∨ b = 1) (hl : bs.length = wd m)
    (q : ∀ h', Sub h h' → Q (if vB bs < m then .int (vB bs) else .non) h') : W_mark_of T [.int m, .tup (bs.map D.int)] h Q Qx := by
  have hw := wd_cases h0 h1
  walk_at "wf"
  refine arenum_ok T (by omega) (fun x hx => by rcases hb x hx with e | e <;> omega) ?_
  walk_at "w"
  refine for_f [2, 3] (fun i vs hh => hh = h ∧ ∃ o, vs = [some (.int (vB (bs.take i))), o]) [some (.int 0), none] rfl (fun _ _ => trivial) ⟨rfl, none, rfl⟩ ?_ ?_
  · rintro i x vs hh N hx sb ⟨rfl, o, rfl⟩ hN
    obtain ⟨b, hbb, rfl⟩ := map_at hx
    have e : bs.take (i + 1) = bs.take i ++ [b] := by rw [List.take_succ, hbb]; rfl
    obtain ⟨_, v0, v1⟩ := blk_vB (bs.take i) fun x hx => hb x (List.mem_of_mem_take hx)
    have b1 := hb b (List.mem_of_getElem? hbb)
    have v2 : vB (bs.take i) < 1000 := by
      have l4 : (bs.take i).length ≤ 4 := by rw [List.length_take]; omega
      generalize (bs.take i).length = n at *
      rcases (by omega : n = 0 ∨ n = 1 ∨ n = 2 ∨ n = 3 ∨ n = 4) with rfl | rfl | rfl | rfl | rfl <;> (simp only [Int.reducePow] at v1; omega)
    walk_at "w"
    exact hN [_, _] _ _ ⟨rfl, _, by rw [e, vB_snoc]⟩ rfl (by walk_at "ws")
  · rintro vs hh sb ⟨rfl, o, rfl⟩
    have lm : (bs.map D.int).length = bs.length := List.length_map ..
    rw [lm, List.take_length]
    have g := q hh (Sub.refl _)
    walk_at "w"
    split
    · rename_i z
      rw [if_pos z] at g
      exact rt_go (by assumption) g
    · rename_i z
      rw [if_neg z] at g
      exact rt_go (by assumption) g
theorem pieces_n {W len k : Nat} (h0 : 1 ≤ W) (h1 : W ≤ 4) (hk : (-((len : Nat) : Int)) % ((W : Nat) : Int) = (k : Nat)) : k < W ∧ cnt W len * W = len + k := by
  have key : ∃ n, n * W = len + k ∧ k < W := by
    rcases (by omega : W = 1 ∨ W = 2 ∨ W = 3 ∨ W = 4) with rfl | rfl | rfl | rfl
    · exact ⟨(len + k) / 1, by omega, by omega⟩
    · exact ⟨(len + k) / 2, by omega, by omega⟩
    · exact ⟨(len + k) / 3, by omega, by omega⟩
    · exact ⟨(len + k) / 4, by omega, by omega⟩
  obtain ⟨n, e, hk⟩ := key
  rw [cnt_of (n := n) (by omega) (by omega) (by omega)]
  exact ⟨hk, e⟩
theorem pc_same {W n k j : Nat} {bs : List Int} (hk : k < W) (hn : n * W = bs.length + k) (hj : j < n) : pc W (bs ++ List.replicate k 0) j = pc W (bs ++ List.replicate W 0) j := by
  have e : bs ++ List.replicate W 0 = (bs ++ List.replicate k 0) ++ List.replicate (W - k) 0 := by
    rw [List.append_assoc, List.replicate_append_replicate, show k + (W - k) = W by omega]
  have l : j * W + W ≤ n * W := by
    have := Nat.mul_le_mul_right W (show j + 1 ≤ n by omega)
    rwa [Nat.succ_mul] at this
  have ll : (bs ++ List.replicate k (0 : Int)).length = n * W := by rw [List.length_append, List.length_replicate]; omega
  unfold pc
  rw [e]
  generalize bs ++ List.replicate k (0 : Int) = Z at *
  rw [List.drop_append_of_le_length (by omega), List.take_append_of_le_length (by rw [List.length_drop]; omega)]
def Ls (L : Int) (xs : List Int) : Prop := ∀ x ∈ xs, 0 ≤ x ∧ x < L
theorem cut_ft {xs : List D} {a b : Nat} (ha : a ≤ xs.length) (hb : b ≤ xs.length) : DL.cutD xs (some (a : Int)) (some (b : Int)) = (xs.take b).drop a := by
  unfold DL.cutD
  rw [HT.sIx_nat, HT.sIx_nat, Nat.min_eq_left ha, Nat.min_eq_left hb, List.drop_take]
theorem qat_gd {xs : List Int} {k : Nat} {h : DH} {R : QD} (hk : k < xs.length) (q : R (.int (xs.getD k 0)) h) : QAt h R (atI (xs.map D.int) (k : Nat)) := by
  have e : atI (xs.map D.int) (k : Nat) = some (.int (xs.getD k 0)) := by
    rw [atN, List.getElem?_map, List.getElem?_eq_getElem hk, List.getD_eq_getElem?_getD, List.getElem?_eq_getElem hk]; rfl
  rw [e]
  exact q
theorem DsIn.dgI {m : Int} {ds : List Int} (h : DsIn m ds) (hm : 0 < m) (z : Int) : 0 ≤ dg ds z ∧ dg ds z < m := by
  unfold dg
  rw [List.getD_eq_getElem?_getD]
  cases e : ds[z.toNat]? with
  | none => exact ⟨Int.le_refl _, hm⟩
  | some x => exact h x (List.mem_of_getElem? e)
theorem lawtape_ok (T : Tx K mg) {h : DH} {Q : QD} {Qx : QX} {dp : Addr} {ds : List Int} (e : h dp = some (.lst (ds.map D.int))) (hl : ds.length = 38) (hd : DsIn 840 ds)
    (q : ∀ p M S rs h', Sub h h' → IsTape T h' p ((M : Nat) : Int) ((S : Nat) : Int) rs → 2 ≤ M ∧ M ≤ 8 → 1 ≤ S ∧ S ≤ 5 → rs.length = S * M → (∀ r ∈ rs, RowOk (M : Nat) (S : Nat) r) → Q (.ref p) h') : W_law_tape T [.ref dp, .int 8, .int 5] h Q Qx := by
  have dr := hd.dgI (by decide)
  walk_at "wf"
  rename Addr => lp
  rename h lp = none => fl
  rename DH => h1
  rename h1 lp = _ => e1
  rename DL.Sub h h1 => s1
  obtain ⟨M, hM, M2⟩ : ∃ M : Nat, 2 + dg ds 0 % 7 = (M : Int) ∧ (2 ≤ M ∧ M ≤ 8) := ⟨(2 + dg ds 0 % 7).toNat, by omega, by omega⟩
  obtain ⟨S, hS, S2⟩ : ∃ S : Nat, 1 + dg ds 1 % 5 = (S : Int) ∧ (1 ≤ S ∧ S ≤ 5) := ⟨(1 + dg ds 1 % 5).toNat, by omega, by omega⟩
  have hMS : M * S ≤ 8 * 5 := Nat.mul_le_mul M2.2 S2.2
  rw [hM, hS, show ((M : Nat) : Int) * ((S : Nat) : Int) = ((M * S : Nat) : Int) by rw [Int.natCast_mul]]
  refine ⟨by omega, by omega, ?_⟩
  rw [Int.toNat_natCast]
  refine for_uB h [6, 7, 8] (fun i vs hh => ∃ o6 o7 o8 rs, vs = [o6, o7, o8] ∧ hh lp = some (.lst (List.map rowD rs)) ∧ rs.length = i ∧ ∀ r ∈ rs, RowOk (M : Nat) (S : Nat) r) [none, none, none] s1 rfl ⟨_, _, _, [], rfl, e1, rfl, fun _ z => nomatch z⟩ ?_ ?_
  · rintro i vs hh N2 hi sb ⟨o6, o7, o8, rs, rfl, a1, a2, a3⟩ hN2
    have hi : i < M * S := hi
    have last : ∀ (r : Rw), RowOk (M : Nat) (S : Nat) r → dup hh lp (.lst (List.map rowD rs ++ [rowD r])) lp = some (.lst (List.map rowD (rs ++ [r]))) ∧ (rs ++ [r]).length = i + 1 ∧ ∀ r' ∈ rs ++ [r], RowOk (M : Nat) (S : Nat) r' := fun r hr => by
      refine ⟨by rw [dup_same, List.map_append]; rfl, by rw [List.length_append, a2]; rfl, fun r' hr' => ?_⟩
      rcases List.mem_append.mp hr' with z | z
      · exact a3 _ z
      · rw [List.mem_singleton.mp z]; exact hr
    walk_at "w"
    split
    · walk_at "w"
      obtain ⟨l1, l2, l3⟩ := last none trivial
      exact hN2 [_, _, _] _ _ ⟨_, _, _, _, rfl, l1, l2, l3⟩ rfl (sub_dup0 sb fl)
    · walk_at "w"
      have d1 := dr (2 + 3 * ((i : Int) % 12))
      have d2 := dr (3 + 3 * ((i : Int) % 12))
      have d3 := dr (4 + 3 * ((i : Int) % 12))
      generalize dg ds (2 + 3 * ((i : Int) % 12)) + 7 * ((i : Int) / 12) = x
      generalize dg ds (3 + 3 * ((i : Int) % 12)) / 3 = y
      generalize dg ds (4 + 3 * ((i : Int) % 12)) + (i : Int) / 12 = z
      obtain ⟨l1, l2, l3⟩ := last (some (x / 5 % (M : Int), 2 * (y % 2) - 1, z % (S : Int))) ⟨Int.emod_nonneg _ (by omega), Int.emod_lt_of_pos _ (by omega), by omega, Int.emod_nonneg _ (by omega), Int.emod_lt_of_pos _ (by omega)⟩
      exact hN2 [_, _, _] _ _ ⟨_, _, _, _, rfl, l1, l2, l3⟩ rfl (sub_dup0 sb fl)
  · rintro vs hh sb ⟨o6, o7, o8, rs, rfl, a1, a2, a3⟩
    walk_at "w"
    refine tape_make T (by omega) (by omega) (by omega) (by omega) a1 (by rw [a2, ← Int.natCast_mul]; rfl) a3 fun p h' s2 f2 it => ?_
    walk_at "wrt"
    exact q p M S rs h' (sb.trans s2) it M2 S2 (by rw [a2, Nat.mul_comm]) a3
theorem trim_end {ms : List Int} {e : Nat} (h0 : ∀ x ∈ ms, 0 ≤ x) (he : e ≤ ms.length) (ht : tz ms = tz (ms.take e)) (hs : e + ms.length = ms.length ∨ e = 0 ∨ ms.getD (e - 1) 0 ≠ 0) : ms.take e = tz ms := by
  rw [ht]
  cases e with
  | zero => rfl
  | succ e =>
    have hne : ms.getD e 0 ≠ 0 := by
      rcases hs with z | z | z
      · omega
      · cases z
      · exact z
    have hlt : e < ms.length := he
    have et : ms.take (e + 1) = ms.take e ++ [ms[e]] := by rw [List.take_succ, List.getElem?_eq_getElem hlt]; rfl
    have p := h0 _ (List.getElem_mem hlt)
    rw [List.getD_eq_getElem?_getD, List.getElem?_eq_getElem hlt] at hne
    have hne : ms[e] ≠ 0 := hne
    rw [et, tz_append_pos (by omega)]
/-! the law's own machine with up to sixteen marks -/
theorem lawtape16_ok (T : Tx K mg) {h : DH} {Q : QD} {Qx : QX} {dp : Addr} {ds : List Int} (e : h dp = some (.lst (ds.map D.int))) (hl : ds.length = 38) (hd : DsIn 840 ds)
    (q : ∀ p M S rs h', Sub h h' → IsTape T h' p ((M : Nat) : Int) ((S : Nat) : Int) rs → 2 ≤ M ∧ M ≤ 16 → 1 ≤ S ∧ S ≤ 5 → rs.length = S * M → (∀ r ∈ rs, RowOk (M : Nat) (S : Nat) r) → Q (.ref p) h') : W_law_tape T [.ref dp, .int 16, .int 5] h Q Qx := by
  have dr := hd.dgI (by decide)
  walk_at "wf"
  rename Addr => lp
  rename h lp = none => fl
  rename DH => h1
  rename h1 lp = _ => e1
  rename DL.Sub h h1 => s1
  obtain ⟨M, hM, M2⟩ : ∃ M : Nat, 2 + dg ds 0 % 15 = (M : Int) ∧ (2 ≤ M ∧ M ≤ 16) := ⟨(2 + dg ds 0 % 15).toNat, by omega, by omega⟩
  obtain ⟨S, hS, S2⟩ : ∃ S : Nat, 1 + dg ds 1 % 5 = (S : Int) ∧ (1 ≤ S ∧ S ≤ 5) := ⟨(1 + dg ds 1 % 5).toNat, by omega, by omega⟩
  have hMS : M * S ≤ 16 * 5 := Nat.mul_le_mul M2.2 S2.2
  rw [hM, hS, show ((M : Nat) : Int) * ((S : Nat) : Int) = ((M * S : Nat) : Int) by rw [Int.natCast_mul]]
  refine ⟨by omega, by omega, ?_⟩
  rw [Int.toNat_natCast]
  refine for_uB h [6, 7, 8] (fun i vs hh => ∃ o6 o7 o8 rs, vs = [o6, o7, o8] ∧ hh lp = some (.lst (List.map rowD rs)) ∧ rs.length = i ∧ ∀ r ∈ rs, RowOk (M : Nat) (S : Nat) r) [none, none, none] s1 rfl ⟨_, _, _, [], rfl, e1, rfl, fun _ z => nomatch z⟩ ?_ ?_
  · rintro i vs hh N2 hi sb ⟨o6, o7, o8, rs, rfl, a1, a2, a3⟩ hN2
    have hi : i < M * S := hi
    have last : ∀ (r : Rw), RowOk (M : Nat) (S : Nat) r → dup hh lp (.lst (List.map rowD rs ++ [rowD r])) lp = some (.lst (List.map rowD (rs ++ [r]))) ∧ (rs ++ [r]).length = i + 1 ∧ ∀ r' ∈ rs ++ [r], RowOk (M : Nat) (S : Nat) r' := fun r hr => by
      refine ⟨by rw [dup_same, List.map_append]; rfl, by rw [List.length_append, a2]; rfl, fun r' hr' => ?_⟩
      rcases List.mem_append.mp hr' with z | z
      · exact a3 _ z
      · rw [List.mem_singleton.mp z]; exact hr
    walk_at "w"
    split
    · walk_at "w"
      obtain ⟨l1, l2, l3⟩ := last none trivial
      exact hN2 [_, _, _] _ _ ⟨_, _, _, _, rfl, l1, l2, l3⟩ rfl (sub_dup0 sb fl)
    · walk_at "w"
      have d1 := dr (2 + 3 * ((i : Int) % 12))
      have d2 := dr (3 + 3 * ((i : Int) % 12))
      have d3 := dr (4 + 3 * ((i : Int) % 12))
      generalize dg ds (2 + 3 * ((i : Int) % 12)) + 7 * ((i : Int) / 12) = x
      generalize dg ds (3 + 3 * ((i : Int) % 12)) / 3 = y
      generalize dg ds (4 + 3 * ((i : Int) % 12)) + (i : Int) / 12 = z
      obtain ⟨l1, l2, l3⟩ := last (some (x / 5 % (M : Int), 2 * (y % 2) - 1, z % (S : Int))) ⟨Int.emod_nonneg _ (by omega), Int.emod_lt_of_pos _ (by omega), by omega, Int.emod_nonneg _ (by omega), Int.emod_lt_of_pos _ (by omega)⟩
      exact hN2 [_, _, _] _ _ ⟨_, _, _, _, rfl, l1, l2, l3⟩ rfl (sub_dup0 sb fl)
  · rintro vs hh sb ⟨o6, o7, o8, rs, rfl, a1, a2, a3⟩
    walk_at "w"
    refine tape_make T (by omega) (by omega) (by omega) (by omega) a1 (by rw [a2, ← Int.natCast_mul]; rfl) a3 fun p h' s2 f2 it => ?_
    walk_at "wrt"
    exact q p M S rs h' (sb.trans s2) it M2 S2 (by rw [a2, Nat.mul_comm]) a3
/-! the law's own blocks, down and up -/
theorem lawwidth_ok (T : Tx K mg) {h : DH} {Q : QD} {Qx : QX} {m : Int} (h0 : 2 ≤ m) (h1 : m ≤ 16) (q : ∀ h', Sub h h' → Q (.int (wd m : Nat)) h') : W_law_width T [.int m] h Q Qx := by
  have hw := wd_cases h0 h1
  walk_at "wf"
  refine for_uB h [1, 2] (fun i vs hh => ∃ (w : Nat) (o : Option D), vs = [some (.int (w : Nat)), o] ∧ ((i = 0 ∧ w = 1) ∨ (i = 1 ∧ ((2 < m ∧ w = 2) ∨ (m ≤ 2 ∧ w = 1))) ∨ (i = 2 ∧ ((4 < m ∧ w = 3) ∨ (2 < m ∧ m ≤ 4 ∧ w = 2) ∨ (m ≤ 2 ∧ w = 1))) ∨ (i = 3 ∧ w = wd m) ∨ (i = 4 ∧ w = wd m))) [some (.int 1), none] (Sub.refl _) rfl ⟨1, none, rfl, .inl ⟨rfl, rfl⟩⟩ ?_ ?_
  · rintro i vs hh N hi sb ⟨w, o, rfl, hw⟩ hN
    have hi : i < 4 := hi
    rcases (by omega : i = 0 ∨ i = 1 ∨ i = 2 ∨ i = 3) with rfl | rfl | rfl | rfl
    · walk_at "w"
      rw [show atI [D.int 0, D.int 2, D.int 4, D.int 8, D.int 16] (1 + ((0 : Nat) : Int)) = some (.int 2) from rfl]
      walk_at "w"
      split
      · rename_i z
        walk_at "w"
        refine hN [_, _] _ _ ⟨2, _, rfl, .inr (.inl ⟨rfl, ?_⟩)⟩ rfl (by walk_at "ws")
        omega
      · rename_i z
        walk_at "w"
        refine hN [_, _] _ _ ⟨w, _, rfl, .inr (.inl ⟨rfl, ?_⟩)⟩ rfl (by walk_at "ws")
        omega
    · walk_at "w"
      rw [show atI [D.int 0, D.int 2, D.int 4, D.int 8, D.int 16] (1 + ((1 : Nat) : Int)) = some (.int 4) from rfl]
      walk_at "w"
      split
      · rename_i z
        walk_at "w"
        refine hN [_, _] _ _ ⟨3, _, rfl, .inr (.inr (.inl ⟨rfl, ?_⟩))⟩ rfl (by walk_at "ws")
        omega
      · rename_i z
        walk_at "w"
        refine hN [_, _] _ _ ⟨w, _, rfl, .inr (.inr (.inl ⟨rfl, ?_⟩))⟩ rfl (by walk_at "ws")
        omega
    · walk_at "w"
      rw [show atI [D.int 0, D.int 2, D.int 4, D.int 8, D.int 16] (1 + ((2 : Nat) : Int)) = some (.int 8) from rfl]
      walk_at "w"
      split
      · rename_i z
        walk_at "w"
        refine hN [_, _] _ _ ⟨4, _, rfl, .inr (.inr (.inr (.inl ⟨rfl, ?_⟩)))⟩ rfl (by walk_at "ws")
        omega
      · rename_i z
        walk_at "w"
        refine hN [_, _] _ _ ⟨w, _, rfl, .inr (.inr (.inr (.inl ⟨rfl, ?_⟩)))⟩ rfl (by walk_at "ws")
        omega
    · walk_at "w"
      rw [show atI [D.int 0, D.int 2, D.int 4, D.int 8, D.int 16] (1 + ((3 : Nat) : Int)) = some (.int 16) from rfl]
      walk_at "w"
      exact hN [_, _] _ _ ⟨w, _, rfl, .inr (.inr (.inr (.inr ⟨rfl, by omega⟩)))⟩ rfl (by walk_at "ws")
  · rintro vs hh sb ⟨w, o, rfl, hw⟩
    have e : w = wd m := by
      rcases hw with ⟨z, _⟩ | ⟨z, _⟩ | ⟨z, _⟩ | ⟨z, _⟩ | ⟨z, e⟩
      · cases z
      · cases z
      · cases z
      · cases z
      · exact e
    subst e
    walk_at "w"
    exact rt_go (by assumption) (q _ sb)
theorem lawblock_ok (T : Tx K mg) {h : DH} {Q : QD} {Qx : QX} {m x : Int} (h0 : 2 ≤ m) (h1 : m ≤ 16) (x0 : 0 ≤ x) (x1 : x < 1000) (q : ∀ h', Sub h h' → Q (.tup ((blk (wd m) x).map D.int)) h') : W_law_block T [.int m, .int x] h Q Qx := by
  have hw := wd_cases h0 h1
  walk_at "wf"
  refine lawwidth_ok T h0 h1 fun h2 s2 => ?_
  walk_at "w"
  refine for_uB h [1, 2, 3] (fun i vs hh => ∃ o3, vs = [some (.int (x / 2 ^ i)), some (.tup ((blk i x).map D.int)), o3]) [some (.int x), some (.tup []), none] s2 rfl ⟨none, by rw [Int.pow_zero, Int.ediv_one]; rfl⟩ ?_ ?_
  · rintro i vs hh N hi sb ⟨o3, rfl⟩ hN
    have p0 : (0 : Int) < 2 ^ i := Int.pow_pos (by decide)
    have d0 : 0 ≤ x / 2 ^ i := Int.ediv_nonneg x0 (by omega)
    have d1 : x / 2 ^ i ≤ x := Int.ediv_le_self _ x0
    have lb : ((blk i x).map D.int).length = i := by rw [List.length_map, blk_len]
    have e1 : x / 2 ^ (i + 1) = x / 2 ^ i / 2 := by rw [Int.pow_succ, Int.ediv_ediv_of_nonneg (by omega)]
    walk_at "w"
    refine ⟨by rw [blk_len]; show 1 + i ≤ 16777216; omega, ?_⟩
    walk_at "w"
    refine hN [_, _, _] _ _ ⟨some (.int (i : Nat)), ?_⟩ rfl sb
    rw [e1, blk_cons]; rfl
  · rintro vs hh sb ⟨o3, rfl⟩
    walk_at "w"
    exact rt_go (by assumption) (q _ sb)
theorem lawvalue_ok (T : Tx K mg) {h : DH} {Q : QD} {Qx : QX} {bs : List Int} (hb : ∀ b ∈ bs, b = 0 ∨ b = 1) (hl : bs.length ≤ 4) (q : Q (.int (vB bs)) h) : W_law_value T [.tup (bs.map D.int)] h Q Qx := by
  walk_at "wf"
  refine for_f [1, 2] (fun i vs hh => hh = h ∧ ∃ o, vs = [some (.int (vB (bs.take i))), o]) [some (.int 0), none] rfl (fun _ _ => trivial) ⟨rfl, none, rfl⟩ ?_ ?_
  · rintro i x vs hh N hx sb ⟨rfl, o, rfl⟩ hN
    obtain ⟨b, hbb, rfl⟩ := map_at hx
    have e : bs.take (i + 1) = bs.take i ++ [b] := by rw [List.take_succ, hbb]; rfl
    obtain ⟨_, v0, v1⟩ := blk_vB (bs.take i) fun x hx => hb x (List.mem_of_mem_take hx)
    have b1 := hb b (List.mem_of_getElem? hbb)
    have v2 : vB (bs.take i) < 1000 := by
      have l4 : (bs.take i).length ≤ 4 := by rw [List.length_take]; omega
      generalize (bs.take i).length = n at *
      rcases (by omega : n = 0 ∨ n = 1 ∨ n = 2 ∨ n = 3 ∨ n = 4) with rfl | rfl | rfl | rfl | rfl <;> (simp only [Int.reducePow] at v1; omega)
    walk_at "w"
    exact hN [_, _] _ _ ⟨rfl, _, by rw [e, vB_snoc]⟩ rfl (by walk_at "ws")
  · rintro vs hh sb ⟨rfl, o, rfl⟩
    have lm : (bs.map D.int).length = bs.length := List.length_map ..
    rw [lm, List.take_length]
    walk_at "w"
/-! the law's own reading of states -/
theorem lawpower_ok (T : Tx K mg) {h : DH} {Q : QD} {Qx : QX} {n : Nat} (hn : n ≤ 4) (q : ∀ h', Sub h h' → Q (.int ((2 ^ n : Nat) : Int)) h') : W_law_power T [.int (n : Nat)] h Q Qx := by
  rcases (by omega : n = 0 ∨ n = 1 ∨ n = 2 ∨ n = 3 ∨ n = 4) with rfl | rfl | rfl | rfl | rfl
  all_goals
    walk_at "wf"
    rename DH => h9
    have g := q h9 (by walk_at "ws")
  · rw [show atI [D.int 1, D.int 2, D.int 4, D.int 8, D.int 16] ((0 : Nat) : Int) = some (.int ((2 ^ 0 : Nat) : Int)) from rfl]
    walk_at "w"
  · rw [show atI [D.int 1, D.int 2, D.int 4, D.int 8, D.int 16] ((1 : Nat) : Int) = some (.int ((2 ^ 1 : Nat) : Int)) from rfl]
    walk_at "w"
  · rw [show atI [D.int 1, D.int 2, D.int 4, D.int 8, D.int 16] ((2 : Nat) : Int) = some (.int ((2 ^ 2 : Nat) : Int)) from rfl]
    walk_at "w"
  · rw [show atI [D.int 1, D.int 2, D.int 4, D.int 8, D.int 16] ((3 : Nat) : Int) = some (.int ((2 ^ 3 : Nat) : Int)) from rfl]
    walk_at "w"
  · rw [show atI [D.int 1, D.int 2, D.int 4, D.int 8, D.int 16] ((4 : Nat) : Int) = some (.int ((2 ^ 4 : Nat) : Int)) from rfl]
    walk_at "w"
theorem lawprefixes_ok (T : Tx K mg) {h : DH} {Q : QD} {Qx : QX} {n : Nat} (hn : n ≤ 4) (q : ∀ p h', h p = none → Sub h h' → h' p = some (.lst ((List.range (2 ^ n)).map fun k : Nat => .tup ((blk n (k : Nat)).map D.int))) → Q (.ref p) h') : W_law_prefixes T [.int (n : Nat)] h Q Qx := by
  have cs : ∀ c : Int, (n = 1 ∧ c = 2) ∨ (n = 2 ∧ c = 4) ∨ (n = 3 ∧ c = 8) ∨ (n = 4 ∧ c = 16) → wd c = n ∧ 2 ≤ c ∧ c ≤ 16 := fun c z => by
    rcases z with ⟨rfl, rfl⟩ | ⟨rfl, rfl⟩ | ⟨rfl, rfl⟩ | ⟨rfl, rfl⟩ <;> exact ⟨rfl, by decide, by decide⟩
  walk_at "wf"
  split
  · walk_at "w"
    refine lawpower_ok T hn fun h2 s2 => ?_
    walk_at "w"
    have b8 : 2 ^ n ≤ 16 := by rcases (by omega : n = 0 ∨ n = 1 ∨ n = 2 ∨ n = 3 ∨ n = 4) with rfl | rfl | rfl | rfl | rfl <;> decide
    obtain ⟨P, hP⟩ : ∃ P, 2 ^ n = P := ⟨_, rfl⟩
    rw [hP] at b8 ⊢
    refine ⟨by omega, by omega, ?_⟩
    refine lc_go (fun k => .tup ((blk n ((k : Nat) : Int)).map D.int)) (fun _ _ => trivial) (by rw [upto_len, sizeLine_eq]; omega) ?_ fun p h' f s e => ?_
    · intro j x h' R hx sb hR
      obtain ⟨hj, rfl⟩ := upto_get hx
      rw [Int.zero_add]
      obtain ⟨c, hc, at_⟩ : ∃ c : Int, ((n = 1 ∧ c = 2) ∨ (n = 2 ∧ c = 4) ∨ (n = 3 ∧ c = 8) ∨ (n = 4 ∧ c = 16)) ∧ atI [D.int 2, D.int 2, D.int 4, D.int 8, D.int 16] ((n : Nat) : Int) = some (.int c) := by
        rcases (by omega : n = 1 ∨ n = 2 ∨ n = 3 ∨ n = 4) with rfl | rfl | rfl | rfl
        · exact ⟨2, by omega, rfl⟩
        · exact ⟨4, by omega, rfl⟩
        · exact ⟨8, by omega, rfl⟩
        · exact ⟨16, by omega, rfl⟩
      obtain ⟨w1, w2, w3⟩ := cs c hc
      walk_at "w"
      refine lawblock_ok T w2 w3 (by omega) (by omega) fun h3 s3 => ?_
      rw [w1]
      exact hR _ (by walk_at "ws")
    · rw [upto_len] at e
      exact rt_go (by assumption) (q p h' (s2.fresh f) (s2.trans s) (by rw [e, hP]))
  · walk_at "w"
    obtain rfl : n = 0 := by omega
    rename Addr => p9
    rename DH => h9
    rename h9 p9 = _ => e9
    exact rt_go (by assumption) (q p9 h9 (by assumption) (by walk_at "ws") e9)
theorem lawread_ok (T : Tx K mg) {h : DH} {Q : QD} {Qx : QX} {mp : Addr} {m st : Int} {S n k : Nat} {rs : List Rw} (it : IsTape T h mp m (S : Nat) rs) (hn : n ≤ 4) (hk : k < 2 ^ n) (hS : S ≤ 100) (s0 : 0 ≤ st) (s1 : st < 100) (q : ∀ h', Sub h h' → Q (.int (rdI (S : Nat) st n (k : Nat))) h') : W_law_read T [.ref mp, .int st, .tup ((blk n (k : Nat)).map D.int)] h Q Qx := by
  obtain ⟨rp, i1, i2⟩ := id it
  unfold tapeF at i1
  have lb : (blk n (k : Nat)).length = n := blk_len
  walk_at "wf"
  rw [lb]
  refine lawpower_ok T hn fun h2 s2 => ?_
  have b8 : 2 ^ n ≤ 16 := by rcases (by omega : n = 0 ∨ n = 1 ∨ n = 2 ∨ n = 3 ∨ n = 4) with rfl | rfl | rfl | rfl | rfl <;> decide
  have e8 : ((2 ^ n : Nat) : Int) = (2 : Int) ^ n := pow_nat
  have g := q h2 s2
  unfold rdI at g
  rw [← e8] at g
  generalize 2 ^ n = P at *
  walk_at "w"
  refine lawvalue_ok T blk_bit (by omega) ?_
  rw [vB_blk (by omega) (by rw [← e8]; omega)]
  walk_at "w"
/-! the law's own writing and going of states, and its rows -/
theorem p16 {n : Nat} (hn : n ≤ 4) : 2 ^ n ≤ 16 ∧ 1 ≤ 2 ^ n := by rcases (by omega : n = 0 ∨ n = 1 ∨ n = 2 ∨ n = 3 ∨ n = 4) with rfl | rfl | rfl | rfl | rfl <;> decide
theorem lawwrite_ok (T : Tx K mg) {h : DH} {Q : QD} {Qx : QX} {mp : Addr} {m st d : Int} {S n k : Nat} {rs : List Rw} (it : IsTape T h mp m (S : Nat) rs) (hm : 2 ≤ m) (hm' : m ≤ 16) (hn : n ≤ 4) (hk : k < 2 ^ n) (hS : S ≤ 100) (s0 : 0 ≤ st) (s1 : st < 100) (q : ∀ h', Sub h h' → Q (.int (wrI (S : Nat) (wd m) st (if d = 1 then 1 else 0) n (k : Nat))) h') : W_law_write T [.ref mp, .int st, .int d, .tup ((blk n (k : Nat)).map D.int)] h Q Qx := by
  obtain ⟨rp, i1, i2⟩ := id it
  unfold tapeF at i1
  have hw := wd_cases hm hm'
  have lb : (blk n (k : Nat)).length = n := blk_len
  walk_at "wf"
  rw [lb]
  refine lawpower_ok T hn fun h2 s2 => ?_
  walk_at "w"
  refine lawwidth_ok T hm hm' fun h3 s3 => ?_
  walk_at "w"
  refine lawpower_ok T (by omega) fun h4 s4 => ?_
  obtain ⟨a1, a2⟩ := p16 hn
  obtain ⟨b1, b2⟩ := p16 (n := wd m) (by omega)
  have e8 : ((2 ^ n : Nat) : Int) = (2 : Int) ^ n := pow_nat
  have e9 : ((2 ^ wd m : Nat) : Int) = (2 : Int) ^ wd m := pow_nat
  have g := fun h' s => q h' s
  unfold wrI rdI at g
  rw [← e8, ← e9, Int.zero_mul, Int.add_zero, Int.add_zero] at g
  generalize 2 ^ n = P at *
  generalize 2 ^ wd m = R at *
  have hs : (if d = 1 then (1 : Int) else 0) = 0 ∨ (if d = 1 then (1 : Int) else 0) = 1 := by split <;> simp
  walk_at "w"
  refine lawvalue_ok T blk_bit (by omega) ?_
  rw [vB_blk (by omega) (by rw [← e8]; omega)]
  walk_at "w"
  exact rt_go (by assumption) (g _ (by walk_at "ws"))
theorem lawgo_ok (T : Tx K mg) {h : DH} {Q : QD} {Qx : QX} {mp : Addr} {m st d : Int} {S k : Nat} {rs : List Rw} (it : IsTape T h mp m (S : Nat) rs) (hm : 2 ≤ m) (hm' : m ≤ 16) (hk : k ≤ 4) (hS : S ≤ 100) (s0 : 0 ≤ st) (s1 : st < 100) (q : ∀ h', Sub h h' → Q (.int (goI (S : Nat) (wd m) st (if d = 1 then 1 else 0) (k : Nat))) h') : W_law_go T [.ref mp, .int st, .int d, .int (k : Nat)] h Q Qx := by
  obtain ⟨rp, i1, i2⟩ := id it
  unfold tapeF at i1
  have hw := wd_cases hm hm'
  walk_at "wf"
  refine lawwidth_ok T hm hm' fun h3 s3 => ?_
  walk_at "w"
  refine lawpower_ok T (by omega) fun h4 s4 => ?_
  obtain ⟨b1, b2⟩ := p16 (n := wd m) (by omega)
  have e9 : ((2 ^ wd m : Nat) : Int) = (2 : Int) ^ wd m := pow_nat
  have eg : goI (S : Nat) (wd m) st (if d = 1 then 1 else 0) (k : Nat) = ((S : Nat) : Int) * (((2 ^ wd m : Nat) : Int) - 1) + 2 * ((S : Nat) : Int) * (((2 ^ wd m : Nat) : Int) - 2) + 2 * ((S : Nat) : Int) * (((k : Nat) : Int) - 1) + 2 * st + (if d = 1 then 1 else 0) := by
    unfold goI wrI rdI
    rw [e9]
    simp
  rw [eg] at q
  generalize hR : 2 ^ wd m = R at *
  have hs : (if d = 1 then (1 : Int) else 0) = 0 ∨ (if d = 1 then (1 : Int) else 0) = 1 := by split <;> simp
  walk_at "w"
  refine lawpower_ok T (by omega) fun h5 s5 => ?_
  rw [hR]
  walk_at "w"
  exact rt_go (by assumption) (q _ (by walk_at "ws"))
theorem blk_add {n k b : Nat} (hb : b < 2) : (blk n (k : Nat)).map D.int ++ [D.int (b : Nat)] = (blk (n + 1) ((2 * k + b : Nat) : Int)).map D.int := by
  rw [blk_snoc, List.map_append, show ((2 * k + b : Nat) : Int) / 2 = (k : Nat) by omega, show ((2 * k + b : Nat) : Int) % 2 = (b : Nat) by omega]; rfl
theorem atI_snoc {l : List D} {d : D} : atI (l ++ [d]) (-1) = some d := by
  unfold atI
  have e : ixN (l ++ [d]).length (-1) = some l.length := by
    rw [List.length_append, List.length_singleton]
    unfold ixN
    rw [if_neg (by decide), if_pos (by omega)]
    congr 1
    omega
  rw [e]
  show (l ++ [d])[l.length]? = some d
  rw [List.getElem?_concat_length]
theorem lawreadrow_ok (T : Tx K mg) {h : DH} {Q : QD} {Qx : QX} {mp : Addr} {m : Int} {S st n k b : Nat} {rs : List Rw} (it : IsTape T h mp m (S : Nat) rs) (hm : 2 ≤ m) (hm' : m ≤ 16) (hl : rs.length = (m * (S : Nat)).toNat) (ok : ∀ r ∈ rs, RowOk m (S : Nat) r) (hn : n < wd m) (hk : k < 2 ^ n) (hS : S ≤ 100) (hst : st < S) (hb : b < 2)
    (q : ∀ h', Sub h h' → Q (rowD (readRow (S : Nat) (wd m) m rs (st : Nat) n (k : Nat) (b : Nat))) h') : W_law_read_row T [.ref mp, .int (st : Nat), .tup ((blk n (k : Nat)).map D.int), .int (b : Nat)] h Q Qx := by
  obtain ⟨rp, i1, i2⟩ := id it
  unfold tapeF at i1
  have hw := wd_cases hm hm'
  have lb : (blk n (k : Nat)).length = n := blk_len
  have lb1 : (blk (n + 1) ((2 * k + b : Nat) : Int)).length = n + 1 := blk_len
  have k2 : 2 * k + b < 2 ^ (n + 1) := by rw [Nat.pow_succ]; omega
  obtain ⟨p1, _⟩ := p16 (n := n + 1) (by omega)
  have v2 : vB (blk (n + 1) ((2 * k + b : Nat) : Int)) = ((2 * k + b : Nat) : Int) := vB_blk (by omega) (by rw [← pow_nat]; omega)
  have ev : ((2 * k + b : Nat) : Int) = 2 * ((k : Nat) : Int) + (b : Nat) := by omega
  unfold readRow at q
  rw [← ev] at q
  walk_at "wf"
  rw [blk_add hb]
  walk_at "w"
  refine lawwidth_ok T hm hm' fun h3 s3 => ?_
  walk_at "w"
  split
  · rename_i z
    rw [if_pos (by omega)] at q
    walk_at "w"
    refine lawread_ok T (it.sub s3) (by omega) k2 hS (by omega) (by omega) fun h4 s4 => ?_
    walk_at "w"
    exact rt_go (by assumption) (q _ (by walk_at "ws"))
  · rename_i z
    rw [if_neg (by omega)] at q
    have en : n + 1 = wd m := by omega
    walk_at "w"
    refine lawvalue_ok T blk_bit (by omega) ?_
    rw [v2]
    walk_at "w"
    split
    · rename_i z2
      rw [if_neg (by omega)] at q
      exact rt_go (by assumption) (q _ (by walk_at "ws"))
    · rename_i z2
      rw [if_pos (by omega)] at q
      have at_ := rowOf_at hm hl (st := ((st : Nat) : Int)) (k := ((2 * k + b : Nat) : Int)) (by omega) (by omega) (by omega) (by omega)
      have ho := rowOf_ok ok ((st : Nat) : Int) ((2 * k + b : Nat) : Int)
      generalize rowOf m rs ((st : Nat) : Int) ((2 * k + b : Nat) : Int) = r at q at_ ho
      walk_at "w"
      refine lawvalue_ok T blk_bit (by omega) ?_
      rw [v2]
      refine taperow_ok T (it.sub s3) hm hm' (by omega) (by omega) (by omega) (by omega) at_ ?_
      cases r with
      | none =>
        rw [show rowD none = D.non from rfl]
        walk_at "w"
        exact rt_go (by assumption) (q _ (by walk_at "ws"))
      | some r =>
        obtain ⟨w, d, t⟩ := r
        obtain ⟨w0, w1, hd, t0, t1⟩ := ho
        have q : ∀ h', Sub h h' → Q (rowD (if wd m = 1 then some (w, d, t) else some (w % 2, -1, wrI (S : Nat) (wd m) t (if d = 1 then 1 else 0) (wd m - 1) (w / 2)))) h' := q
        have er : rowD (some (w, d, t)) = D.tup [.int w, .int d, .int t] := rfl
        rw [er]
        walk_at "w"
        refine lawvalue_ok T blk_bit (by omega) ?_
        rw [v2]
        refine taperow_ok T (r := some (w, d, t)) (it.sub s3) hm hm' (by omega) (by omega) (by omega) (by omega) at_ ?_
        rw [er]
        walk_at "w"
        refine lawblock_ok T hm hm' w0 (by omega) fun h5 s5 => ?_
        walk_at "w"
        split
        · rename_i z3
          have w1' : wd m = 1 := by omega
          have w2 : w < 2 := by omega
          rw [if_pos w1'] at q
          have b1 : blk (wd m) w = [w] := by
            rw [w1', blk_snoc, blk_zero, show w % 2 = w by omega]; rfl
          rw [b1, List.map_cons, zAt0]
          walk_at "w"
          have lr := fun Q Qx q => lawread_ok (Q := Q) (Qx := Qx) T (it.sub (show Sub h h5 by walk_at "ws")) (n := 0) (k := 0) (by omega) (by decide) hS t0 (by omega) q
          refine lr _ _ fun h6 s6 => ?_
          rw [show rdI (S : Nat) t 0 ((0 : Nat) : Int) = t by unfold rdI; simp]
          walk_at "w"
          exact rt_go (by assumption) (q _ (by walk_at "ws"))
        · rename_i z3
          rw [if_neg (by omega)] at q
          have sn : blk (wd m) w = blk (wd m - 1) (w / 2) ++ [w % 2] := by
            have := blk_snoc (n := wd m - 1) (x := w)
            rwa [show wd m - 1 + 1 = wd m by omega] at this
          walk_at "w"
          rw [sn, List.map_append, List.map_singleton, atI_snoc]
          walk_at "w"
          rw [List.dropLast_concat]
          obtain ⟨y, hy⟩ := Int.eq_ofNat_of_zero_le (show 0 ≤ w / 2 by omega)
          have y2 : y < 2 ^ (wd m - 1) := by
            rcases (by omega : wd m = 2 ∨ wd m = 3 ∨ wd m = 4) with e | e | e <;> (rw [e]; simp only [Nat.reducePow, Nat.reduceSub]; omega)
          rw [hy] at q ⊢
          refine lawwrite_ok T (it.sub (by walk_at "ws")) hm hm' (by omega) y2 hS t0 (by omega) fun h6 s6 => ?_
          walk_at "w"
          exact rt_go (by assumption) (q _ (by walk_at "ws"))
/-! dicts: steps of the walk -/
local macro_rules | `(tactic| walk_at "wcall") => `(tactic| ((with_reducible refine And.intro (isD_K (kvs := ?s1) ?g1) ?g2); (case g1 => walk_at "wh")))
local macro_rules | `(tactic| walk_at "wcall") => `(tactic| ((with_reducible refine dGet_K (kvs := ?s1) (q := ?s2) ?g1 ?g3 ?g2); (case g1 => walk_at "wh"); (case g3 => rfl)))
local macro_rules | `(tactic| walk_at "wcall") => `(tactic| ((with_reducible refine dPut_K (kvs := ?s1) (q := ?s2) ?g1 ?g3 ?g4 ?g2); (case g1 => walk_at "wh"); (case g3 => rfl); (case g4 => walk_at "sz")))
theorem mergeD_2 {k1 k2 : Key} {d1 d2 : D} (n : k1 ≠ k2) : mergeD [] [(k1, d1), (k2, d2)] = [(k1, d1), (k2, d2)] := by
  simp [mergeD, putK2, n]
theorem valD_2 {k1 k2 k : Key} {d1 d2 : D} : valD [(k1, d1), (k2, d2)] k = if k1 = k then some d1 else if k2 = k then some d2 else none := by
  unfold valD
  rw [List.find?_cons, List.find?_cons, List.find?_nil]
  by_cases a : k1 = k
  · rw [if_pos a, decide_eq_true a]; rfl
  · rw [if_neg a, decide_eq_false a]
    by_cases b : k2 = k
    · rw [if_pos b, decide_eq_true b]; rfl
    · rw [if_neg b, decide_eq_false b]; rfl
theorem sg_inj {a b : Nat} : sg a = sg b ↔ a = b := by
  unfold sg
  rw [Str.mk.injEq]
  constructor
  · intro h; have := congrArg (fun x : Array Nat => x.toList) h; simpa using this
  · intro h; rw [h]
theorem mem_atI {xs : List D} {i : Int} {d : D} (h : atI xs i = some d) : d ∈ xs := by
  unfold atI at h
  cases e : ixN xs.length i with
  | none => rw [e] at h; cases h
  | some j => rw [e] at h; exact List.mem_of_getElem? h
/-! the rows of the lower machine by their states, without the kit -/
theorem fm_find {α : Type} {f : Nat → List α} {off : Nat → Nat} (hs : ∀ i, off (i + 1) = off i + (f i).length) (h0 : off 0 = 0) : ∀ {n p : Nat}, p < off n → ∃ i r, i < n ∧ r < (f i).length ∧ p = off i + r
  | 0, p, h => by omega
  | n + 1, p, h => by
    rw [hs] at h
    rcases Nat.lt_or_ge p (off n) with z | z
    · obtain ⟨i, r, a, b, c⟩ := fm_find hs h0 z
      exact ⟨i, r, by omega, b, c⟩
    · exact ⟨n, p - off n, by omega, by omega, by omega⟩
def keysR (S st n : Nat) : List Int := (List.range (2 ^ n)).map fun k : Nat => rdI (S : Nat) (st : Nat) n (k : Nat)
def keysW (S W st s i : Nat) : List Int := ((List.range (2 ^ (i + 1))).map fun k : Nat => wrI (S : Nat) W (st : Nat) (s : Nat) (i + 1) (k : Nat)) ++ [goI (S : Nat) W (st : Nat) (s : Nat) ((i + 1 : Nat) : Int)]
def keysS (S W st : Nat) : List Int := ((List.range W).flatMap (keysR S st)) ++ (List.range 2).flatMap fun s => (List.range (W - 1)).flatMap (keysW S W st s)
theorem keys_read {S W st n k : Nat} (h1 : st < S) (h2 : n < W) (h3 : k < 2 ^ n) : rdI (S : Nat) (st : Nat) n (k : Nat) ∈ (List.range S).flatMap (keysS S W) :=
  List.mem_flatMap.mpr ⟨st, List.mem_range.mpr h1, List.mem_append_left _ (List.mem_flatMap.mpr ⟨n, List.mem_range.mpr h2, List.mem_map.mpr ⟨k, List.mem_range.mpr h3, rfl⟩⟩)⟩
theorem keys_write {S W st s i k : Nat} (h1 : st < S) (h2 : s < 2) (h3 : i < W - 1) (h4 : k < 2 ^ (i + 1)) : wrI (S : Nat) W (st : Nat) (s : Nat) (i + 1) (k : Nat) ∈ (List.range S).flatMap (keysS S W) :=
  List.mem_flatMap.mpr ⟨st, List.mem_range.mpr h1, List.mem_append_right _ (List.mem_flatMap.mpr ⟨s, List.mem_range.mpr h2, List.mem_flatMap.mpr ⟨i, List.mem_range.mpr h3, List.mem_append_left _ (List.mem_map.mpr ⟨k, List.mem_range.mpr h4, rfl⟩)⟩⟩)⟩
theorem keys_go {S W st s i : Nat} (h1 : st < S) (h2 : s < 2) (h3 : i < W - 1) : goI (S : Nat) W (st : Nat) (s : Nat) ((i + 1 : Nat) : Int) ∈ (List.range S).flatMap (keysS S W) :=
  List.mem_flatMap.mpr ⟨st, List.mem_range.mpr h1, List.mem_append_right _ (List.mem_flatMap.mpr ⟨s, List.mem_range.mpr h2, List.mem_flatMap.mpr ⟨i, List.mem_range.mpr h3, List.mem_append_right _ List.mem_cons_self⟩⟩)⟩
/-- each state has its key -/
theorem keys_all {S W z : Nat} (h0 : 1 ≤ W) (h1 : W ≤ 4) (hz : z < loS S W) : ((z : Nat) : Int) ∈ (List.range S).flatMap (keysS S W) := by
  have div : ∀ {P r : Nat}, 0 < P → r < S * P → ∃ st v, st < S ∧ v < P ∧ r = st * P + v := fun {P r} hP hr => ⟨r / P, r % P, (Nat.div_lt_iff_lt_mul hP).mpr hr, Nat.mod_lt _ hP, by rw [Nat.mul_comm]; exact (Nat.div_add_mod r P).symm⟩
  have po : ∀ n, S * (2 ^ (n + 1) - 1) = S * (2 ^ n - 1) + S * 2 ^ n := fun n => by
    have := pow_off (S := S) (c := 1) (n := n)
    rw [Nat.one_mul, Nat.one_mul] at this
    exact this
  have reads : z < S * (2 ^ W - 1) → ((z : Nat) : Int) ∈ (List.range S).flatMap (keysS S W) := fun h => by
    obtain ⟨n, r, hn, hr, e⟩ := fm_find (f := fun n => List.replicate (S * 2 ^ n) ()) (off := fun n => S * (2 ^ n - 1)) (fun i => by rw [List.length_replicate]; exact po i) rfl (n := W) h
    rw [List.length_replicate] at hr
    obtain ⟨st, v, a, b, c⟩ := div (Nat.two_pow_pos n) hr
    have k := keys_read (W := W) a hn b
    have ez : rdI (S : Nat) (st : Nat) n (v : Nat) = ((z : Nat) : Int) := by
      unfold rdI
      rw [e, c]
      rcases (by omega : n = 0 ∨ n = 1 ∨ n = 2 ∨ n = 3) with rfl | rfl | rfl | rfl <;> (simp only [Int.reducePow, Int.reduceSub, Nat.reducePow, Nat.reduceSub]; omega)
    rw [ez] at k
    exact k
  rcases Nat.lt_or_ge z (S * (2 ^ W - 1)) with h | h
  · exact reads h
  · have h2 : 2 ≤ W := by
      rcases loS_is (S := S) h0 h1 with ⟨rfl, e⟩ | ⟨rfl, e⟩ | ⟨rfl, e⟩ | ⟨rfl, e⟩ <;> simp only [Nat.reducePow, Nat.reduceSub] at h <;> omega
    obtain ⟨y, rfl⟩ : ∃ y, z = S * (2 ^ W - 1) + y := ⟨z - S * (2 ^ W - 1), by omega⟩
    clear h reads
    rcases Nat.lt_or_ge y (4 * S * (2 ^ (W - 1) - 1)) with h | h
    · obtain ⟨i, r, hi, hr, e⟩ := fm_find (f := fun n => List.replicate (4 * (S * 2 ^ n)) ()) (off := fun n => 4 * S * (2 ^ n - 1)) (fun i => by rw [List.length_replicate]; exact pow_off) rfl (n := W - 1) h
      rw [List.length_replicate] at hr
      obtain ⟨st, u, a, b, c⟩ := div (P := 2 * 2 ^ (i + 1)) (r := r) (by have := Nat.two_pow_pos (i + 1); omega) (by rw [Nat.pow_succ, show 2 * (2 ^ i * 2) = 4 * 2 ^ i by omega, Nat.mul_left_comm]; exact hr)
      have sv : ∃ s v, s < 2 ∧ v < 2 ^ (i + 1) ∧ u = s * 2 ^ (i + 1) + v := by
        rcases Nat.lt_or_ge u (2 ^ (i + 1)) with q | q
        · exact ⟨0, u, by decide, q, by omega⟩
        · exact ⟨1, u - 2 ^ (i + 1), by decide, by omega, by omega⟩
      obtain ⟨s, v, s2, v2, e2⟩ := sv
      have k := keys_write (W := W) a s2 hi v2
      have ez : wrI (S : Nat) W (st : Nat) (s : Nat) (i + 1) (v : Nat) = ((S * (2 ^ W - 1) + y : Nat) : Int) := by
        unfold wrI rdI
        rw [e, c, e2]
        rcases (by omega : s = 0 ∨ s = 1) with rfl | rfl <;> rcases (by omega : i = 0 ∨ i = 1 ∨ i = 2) with rfl | rfl | rfl <;> rcases (by omega : W = 2 ∨ W = 3 ∨ W = 4) with rfl | rfl | rfl <;> (simp only [Int.reducePow, Int.reduceSub, Nat.reducePow, Nat.reduceSub, Nat.reduceMul, Nat.reduceAdd]; omega)
      rw [ez] at k
      exact k
    · obtain ⟨x, rfl⟩ : ∃ x, y = 4 * S * (2 ^ (W - 1) - 1) + x := ⟨y - 4 * S * (2 ^ (W - 1) - 1), by omega⟩
      have hx : x < (W - 1) * (S * 2) := by
        rcases loS_is (S := S) h0 h1 with ⟨rfl, e⟩ | ⟨rfl, e⟩ | ⟨rfl, e⟩ | ⟨rfl, e⟩ <;> simp only [Nat.reducePow, Nat.reduceSub, Nat.reduceMul] at hz ⊢ <;> omega
      obtain ⟨i, r, hi, hr, e⟩ := fm_find (f := fun n => List.replicate (S * 2) ()) (off := fun n => n * (S * 2)) (fun i => by rw [List.length_replicate, Nat.succ_mul]) (Nat.zero_mul _) (n := W - 1) hx
      rw [List.length_replicate] at hr
      obtain ⟨st, s, a, b, c⟩ := div (P := 2) (by decide) hr
      have k := keys_go (W := W) a b hi
      have ez : goI (S : Nat) W (st : Nat) (s : Nat) ((i + 1 : Nat) : Int) = ((S * (2 ^ W - 1) + (4 * S * (2 ^ (W - 1) - 1) + x) : Nat) : Int) := by
        unfold goI wrI rdI
        rw [e, c]
        rcases (by omega : i = 0 ∨ i = 1 ∨ i = 2) with rfl | rfl | rfl <;> rcases (by omega : W = 2 ∨ W = 3 ∨ W = 4) with rfl | rfl | rfl <;> (simp only [Int.reducePow, Int.reduceSub, Nat.reducePow, Nat.reduceSub, Nat.reduceMul, Nat.reduceAdd]; omega)
      rw [ez] at k
      exact k
/-- the two rows of a state -/
def rowZ (low : List Rw) (z b : Int) : Rw := rowAt 2 low ⟨z, [], b, []⟩
def pairZ (low : List Rw) (z : Int) : List Rw := [rowZ low z 0, rowZ low z 1]
theorem rowZ_at {low : List Rw} {z b : Nat} (h : 2 * z + b < low.length) : rowZ low (z : Nat) (b : Nat) = low[2 * z + b] := by
  unfold rowZ rowAt
  show (low[(((z : Nat) : Int) * 2 + (b : Nat)).toNat]?).getD none = _
  rw [show (((z : Nat) : Int) * 2 + (b : Nat)).toNat = 2 * z + b by omega, List.getElem?_eq_getElem h]; rfl
theorem pairs_take {low : List Rw} : ∀ (n : Nat), 2 * n ≤ low.length → (List.range n).flatMap (fun z => pairZ low (z : Nat)) = low.take (2 * n)
  | 0, _ => rfl
  | n + 1, h => by
    rw [List.range_succ, List.flatMap_append, List.flatMap_singleton, pairs_take n (by omega)]
    have e0 := rowZ_at (low := low) (z := n) (b := 0) (by omega)
    have e1 := rowZ_at (low := low) (z := n) (b := 1) (by omega)
    unfold pairZ
    rw [show ((0 : Int)) = ((0 : Nat) : Int) from rfl, show ((1 : Int)) = ((1 : Nat) : Int) from rfl, e0, e1, show 2 * (n + 1) = 2 * n + 1 + 1 by omega, List.take_succ, List.take_succ, List.getElem?_eq_getElem (by omega), List.getElem?_eq_getElem (by omega), List.append_assoc]; rfl
theorem sorted_range {ys : List Int} {n : Nat} (nd : ys.Nodup) (so : ys.Pairwise (· ≤ ·)) (mem : ∀ z : Int, z ∈ ys ↔ 0 ≤ z ∧ z < (n : Nat)) : ys = (List.range n).map fun k : Nat => (k : Int) := by
  have nr : ((List.range n).map fun k : Nat => (k : Int)).Nodup := by
    refine (List.pairwise_map.mpr (List.nodup_range.imp fun {a b} h e => h ?_))
    exact Int.ofNat.inj e
  have sr : ((List.range n).map fun k : Nat => (k : Int)).Pairwise (· ≤ ·) := List.pairwise_map.mpr (List.pairwise_lt_range.imp fun {a b} h => by omega)
  have pm : ys.Perm ((List.range n).map fun k : Nat => (k : Int)) := (List.perm_ext_iff_of_nodup nd nr).mpr fun z => by
    rw [mem z, List.mem_map]
    exact ⟨fun h => ⟨z.toNat, List.mem_range.mpr (by omega), by omega⟩, fun ⟨k, hk, e⟩ => by have := List.mem_range.mp hk; omega⟩
  exact pm.eq_of_pairwise (fun a b _ _ h1 h2 => Int.le_antisymm h1 h2) so sr
/-! the law's own table -/
structure Tb (low : List Rw) (dp : Addr) (St : Nat) (L : List Int) (hh : DH) (kvs : List (Key × D)) : Prop where
  e : hh dp = some (.dK kvs)
  nd : (kvs.map (·.1)).Nodup
  ks : ∀ z d, valD kvs z = some d → ∃ (y : Int) (a : Addr), z = .inl y ∧ d = .ref a ∧ (0 ≤ y ∧ y < (St : Nat)) ∧ hh a = some (.lst ((pairZ low y).map rowD))
  al : ∀ y ∈ L, ∃ d, valD kvs (.inl y) = some d
section
variable {low : List Rw} {dp : Addr} {St : Nat} {L : List Int} {hh h2 : DH} {kvs : List (Key × D)}
theorem Tb.sub (t : Tb low dp St L hh kvs) (s : Sub hh h2) : Tb low dp St L h2 kvs := ⟨s _ _ t.e, t.nd, fun z d h => by
  obtain ⟨y, a, h1, h2, h3, h4⟩ := t.ks z d h
  exact ⟨y, a, h1, h2, h3, s _ _ h4⟩, t.al⟩
theorem Tb.len (t : Tb low dp St L hh kvs) : kvs.length ≤ St := by
  have := t.nd.length_le_of_subset (l₂ := (List.range St).map fun k : Nat => (Sum.inl (k : Int) : Key)) fun z hz => by
    obtain ⟨⟨k, d⟩, hk, rfl⟩ := List.mem_map.mp hz
    obtain ⟨j, hj, e⟩ := List.getElem_of_mem hk
    obtain ⟨y, a, h1, _, h3, _⟩ := t.ks k d (valD_at t.nd (by rw [List.getElem?_eq_getElem hj, e]))
    have h1 : k = .inl y := h1
    subst h1
    exact List.mem_map.mpr ⟨y.toNat, List.mem_range.mpr (by omega), by show Sum.inl ((y.toNat : Nat) : Int) = _; rw [Int.toNat_of_nonneg h3.1]⟩
  rwa [List.length_map, List.length_map, List.length_range] at this
theorem Tb.put {y : Int} {a : Addr} (t : Tb low dp St L hh kvs) (hy : 0 ≤ y ∧ y < (St : Nat)) (ha : hh a = some (.lst ((pairZ low y).map rowD))) : Tb low dp St (L ++ [y]) (dup hh dp (.dK (putK2 kvs (.inl y) (.ref a)))) (putK2 kvs (.inl y) (.ref a)) := by
  have keep : ∀ b : Addr, ∀ ys, hh b = some (.lst ys) → dup hh dp (.dK (putK2 kvs (.inl y) (.ref a))) b = some (.lst ys) := fun b ys hb => by
    rw [dup_ne (fun z => by rw [z, t.e] at hb; cases hb)]; exact hb
  refine ⟨dup_same, put_nodup t.nd, fun z d h => ?_, fun x hx => ?_⟩
  · rw [val_put] at h
    split at h
    · rename_i ez
      cases h
      exact ⟨y, a, ez, rfl, hy, keep _ _ ha⟩
    · obtain ⟨x, b, h1, h2, h3, h4⟩ := t.ks z d h
      exact ⟨x, b, h1, h2, h3, keep _ _ h4⟩
  · rw [val_put]
    by_cases c : x = y
    · exact ⟨.ref a, if_pos (by rw [c])⟩
    · have hx : x ∈ L := (List.mem_append.mp hx).elim id fun z => absurd (List.mem_singleton.mp z) c
      obtain ⟨d, hd⟩ := t.al x hx
      exact ⟨d, by rw [if_neg (fun z => c (by injection z))]; exact hd⟩
end
theorem flat_succ {α : Type} {f : Nat → List α} {n : Nat} {L : List α} : L ++ (List.range (n + 1)).flatMap f = (L ++ (List.range n).flatMap f) ++ f n := by
  rw [List.range_succ, List.flatMap_append, List.flatMap_singleton, List.append_assoc]
theorem map_succ {α : Type} {f : Nat → α} {n : Nat} {L : List α} : L ++ (List.range (n + 1)).map f = (L ++ (List.range n).map f) ++ [f n] := by
  rw [List.range_succ, List.map_append, List.map_singleton, List.append_assoc]
theorem pair_read {S W n st k : Nat} {m : Int} {rs : List Rw} (h0 : 1 ≤ W) (h1 : W ≤ 4) (hn : n < W) (s1 : st < S) (hk : k < 2 ^ n) : pairZ (lowRows S W m rs) (rdI (S : Nat) (st : Nat) n (k : Nat)) = [readRow (S : Nat) W m rs (st : Nat) n (k : Nat) ((0 : Nat) : Int), readRow (S : Nat) W m rs (st : Nat) n (k : Nat) ((1 : Nat) : Int)] := by
  unfold pairZ rowZ
  rw [low_read h0 h1 hn (by omega) (by omega) (by omega) (pow_lt hk) (.inl rfl), low_read h0 h1 hn (by omega) (by omega) (by omega) (pow_lt hk) (.inr rfl)]; rfl
theorem pair_write {S W n st k : Nat} {s m : Int} {rs : List Rw} (h0 : 2 ≤ W) (h1 : W ≤ 4) (hn0 : 1 ≤ n) (hn : n < W) (s1 : st < S) (hs : s = 0 ∨ s = 1) (hk : k < 2 ^ n) : pairZ (lowRows S W m rs) (wrI (S : Nat) W (st : Nat) s n (k : Nat)) = [writeRow (S : Nat) W (st : Nat) s n (k : Nat), writeRow (S : Nat) W (st : Nat) s n (k : Nat)] := by
  unfold pairZ rowZ
  rw [low_write h0 h1 hn0 hn (by omega) (by omega) hs (by omega) (pow_lt hk) (.inl rfl), low_write h0 h1 hn0 hn (by omega) (by omega) hs (by omega) (pow_lt hk) (.inr rfl)]
theorem pair_go {S W k st : Nat} {s m : Int} {rs : List Rw} (h0 : 2 ≤ W) (h1 : W ≤ 4) (hk0 : 1 ≤ k) (hk : k < W) (s1 : st < S) (hs : s = 0 ∨ s = 1) : pairZ (lowRows S W m rs) (goI (S : Nat) W (st : Nat) s (k : Nat)) = [goRow (S : Nat) W (st : Nat) s k 0, goRow (S : Nat) W (st : Nat) s k 1] := by
  unfold pairZ rowZ
  rw [low_go h0 h1 hk0 hk (by omega) (by omega) hs (.inl rfl), low_go h0 h1 hk0 hk (by omega) (by omega) hs (.inr rfl)]
theorem lawrowsT_ok (T : Tx K mg) {h : DH} {Q : QD} {Qx : QX} {mp : Addr} {m : Int} {S : Nat} {rs : List Rw} (it : IsTape T h mp m (S : Nat) rs) (hm : 2 ≤ m) (hm' : m ≤ 16) (hl : rs.length = (m * (S : Nat)).toNat) (ok : ∀ r ∈ rs, RowOk m (S : Nat) r) (hS : S ≤ 5)
    (q : ∀ p h', h p = none → Sub h h' → h' p = some (.lst ((lowRows S (wd m) m rs).map rowD)) → Q (.ref p) h') : W_law_rows T [.ref mp] h Q Qx := by
  obtain ⟨rp, i1, i2⟩ := id it
  unfold tapeF at i1
  have hw := wd_cases hm hm'
  obtain ⟨low, hlow⟩ : ∃ low, lowRows S (wd m) m rs = low := ⟨_, rfl⟩
  walk_at "wf"
  refine lawwidth_ok T hm hm' fun h3 s3 => ?_
  walk_at "w"
  rename Addr => dp
  rename h dp = none => fd
  have e3 : h3 dp = some (.dK []) := s3 _ _ dup_same
  have sh3 : Sub h h3 := (Sub.new fd).trans s3
  clear s3
  have St4 : loS S (wd m) ≤ 4000 := by rcases loS_is (S := S) (by omega : 1 ≤ wd m) (by omega) with ⟨e, e5⟩ | ⟨e, e5⟩ | ⟨e, e5⟩ | ⟨e, e5⟩ <;> omega
  refine for_uB h [3, 4, 5, 6, 7, 8] (fun i vs hh => ∃ o3 o4 o5 o6 o7 o8 kvs, vs = [o3, o4, o5, o6, o7, o8] ∧ Tb low dp (loS S (wd m)) ((List.range i).flatMap (keysS S (wd m))) hh kvs) [none, none, none, none, none, none] sh3 rfl ⟨_, _, _, _, _, _, [], rfl, e3, List.nodup_nil, fun _ _ z => (by cases z), fun _ z => nomatch z⟩ ?_ ?_
  · rintro i vs hh N hi sb ⟨o3, o4, o5, o6, o7, o8, kvs, rfl, tb⟩ hN
    have hi : i < S := by omega
    walk_at "w"
    rename_i N1 c1
    suffices key : ∀ (hx : DH) (o4 o5 : Option D) (kvs : List (Key × D)), Sub h hx → Tb low dp (loS S (wd m)) ((List.range i).flatMap (keysS S (wd m)) ++ (List.range (wd m)).flatMap (keysR S i)) hx kvs → N1 [some (.ref mp), some (.ref dp), some (.int (wd m : Nat)), some (.int (i : Nat)), o4, o5, o6, o7, o8, none, none] hx by
      clear c1
      refine for_uB h [4, 5] (fun n vs hh => ∃ o4 o5 kvs, vs = [o4, o5] ∧ Tb low dp (loS S (wd m)) ((List.range i).flatMap (keysS S (wd m)) ++ (List.range n).flatMap (keysR S i)) hh kvs) [o4, o5] sb rfl ⟨o4, o5, kvs, rfl, by rw [List.range_zero, List.flatMap_nil, List.append_nil]; exact tb⟩ ?_ ?_
      · rintro n vs h4 N2 hn sb4 ⟨o4, o5, kvs, rfl, tb4⟩ hN2
        have hn : n < wd m := by omega
        walk_at "w"
        refine lawprefixes_ok T (by omega) fun hp h5 f5 s5 e5 => ?_
        walk_at "w"
        have tb5 := tb4.sub s5
        have fp := sb4.fresh f5
        refine for_fB h [5] (fun k vs hh => ∃ o5 kvs, vs = [o5] ∧ hh hp = some (.lst ((List.range (2 ^ n)).map fun k : Nat => .tup ((blk n (k : Nat)).map D.int))) ∧ Tb low dp (loS S (wd m)) (((List.range i).flatMap (keysS S (wd m)) ++ (List.range n).flatMap (keysR S i)) ++ (List.range k).map fun k : Nat => rdI (S : Nat) (i : Nat) n (k : Nat)) hh kvs) [o5] (sb4.trans s5) rfl (fun _ _ _ _ ⟨_, _, _, z, _⟩ => z) ⟨o5, kvs, rfl, e5, by rw [List.range_zero, List.map_nil, List.append_nil]; exact tb5⟩ ?_ ?_
        · rintro k x vs h6 N3 hx sb6 ⟨o5, kvs, rfl, e6, tb6⟩ hN3
          obtain ⟨k', hk', rfl⟩ := map_at hx
          obtain ⟨hkl, rfl⟩ : k < 2 ^ n ∧ k = k' := by
            rw [List.getElem?_range (by have := (List.getElem?_eq_some_iff.mp hk').1; simpa using this)] at hk'
            exact ⟨by have := (List.getElem?_eq_some_iff.mp hx).1; simpa using this, Option.some.inj hk'⟩
          obtain ⟨r0, r1⟩ := rdI_in (S := S) (by omega : 1 ≤ wd m) (by omega) hn (show (0 : Int) ≤ (i : Nat) by omega) (by omega) (show (0 : Int) ≤ (k : Nat) by omega) (pow_lt hkl)
          have pr := pair_read (m := m) (rs := rs) (by omega : 1 ≤ wd m) (by omega) hn hi hkl
          rw [hlow] at pr
          have lk := tb6.len
          have ed := tb6.e
          walk_at "w"
          rename DH => h7
          have s67 : Sub h6 h7 := by walk_at "ws"
          refine lc_go (fun j => rowD (readRow (S : Nat) (wd m) m rs (i : Nat) n (k : Nat) (j : Nat))) (fun h' s => s _ _ (by assumption)) (by show 2 < sizeLine; rw [sizeLine_eq]; decide) ?_ fun a h8 f8 s8 e8 => ?_
          · intro j x h' R hx sx hR
            have hj : j < 2 := (List.getElem?_eq_some_iff.mp hx).1
            rw [bits_at hx]
            walk_at "w"
            refine lawreadrow_ok T (it.sub ((sb6.trans s67).trans sx)) hm hm' hl ok hn hkl (by omega) hi hj fun h9 s9 => ?_
            exact hR _ s9
          · have e8 : h8 a = some (.lst ((pairZ low (rdI (S : Nat) (i : Nat) n (k : Nat))).map rowD)) := by rw [pr]; exact e8
            have s68 := s67.trans s8
            refine lawread_ok T (it.sub (sb6.trans s68)) (by omega) hkl (by omega) (by omega) (by omega) fun h9 s9 => ?_
            have ed9 := s9 _ _ (s68 _ _ ed)
            walk_at "w"
            refine hN3 [_] _ _ ⟨_, putK2 kvs (.inl (rdI (S : Nat) (i : Nat) n (k : Nat))) (.ref a), rfl, ?_, ?_⟩ rfl (sub_dup0 (by walk_at "ws") fd)
            · rw [dup_ne (fun z => by rw [z, ed] at e6; cases e6)]; walk_at "wh"
            · rw [map_succ]
              exact (tb6.sub (s68.trans s9)).put ⟨r0, r1⟩ (s9 _ _ e8)
        · rintro vs h6 sb6 ⟨o5, kvs, rfl, e6, tb6⟩
          rw [List.length_map, List.length_range] at tb6
          exact hN2 [_, _] _ _ ⟨_, _, kvs, rfl, by rw [flat_succ]; exact tb6⟩ rfl sb6
      · rintro vs h4 sb4 ⟨o4, o5, kvs, rfl, tb4⟩
        exact key _ _ _ _ sb4 tb4
    intro hx o4 o5 kvs sbx tbx
    walk_at "w"
    rename Addr => mq
    rename hx mq = none => fm
    rename DH => hy
    rename hy mq = _ => em
    rename Sub hx hy => sxy
    generalize hLA : (List.range i).flatMap (keysS S (wd m)) ++ (List.range (wd m)).flatMap (keysR S i) = LA at tbx
    refine for_fB h [4, 5, 6, 7, 8] (fun s vs hh => ∃ o4 o5 o6 o7 o8 kvs, vs = [o4, o5, o6, o7, o8] ∧ hh mq = some (.lst [.int (-1), .int 1]) ∧ Tb low dp (loS S (wd m)) (LA ++ (List.range s).flatMap fun s => (List.range (wd m - 1)).flatMap (keysW S (wd m) i s)) hh kvs) [o4, o5, o6, o7, o8] (sbx.trans sxy) rfl (fun _ _ _ _ ⟨_, _, _, _, _, _, _, z, _⟩ => z) ⟨_, _, _, _, _, kvs, rfl, em, by rw [List.range_zero, List.flatMap_nil, List.append_nil]; exact tbx.sub sxy⟩ ?_ ?_
    · rintro s x vs h4 N2 hx2 sb4 ⟨o4, o5, o6, o7, o8, kvs, rfl, em4, tb4⟩ hN2
      obtain ⟨hs2, rfl⟩ : s < 2 ∧ x = .int (2 * (s : Nat) - 1) := by
        match s, hx2 with
        | 0, hx2 => cases hx2; exact ⟨by decide, rfl⟩
        | 1, hx2 => cases hx2; exact ⟨by decide, rfl⟩
        | s + 2, hx2 => cases hx2
      have hs01 : ((s : Nat) : Int) = 0 ∨ ((s : Nat) : Int) = 1 := by omega
      have ifs : (if 2 * ((s : Nat) : Int) - 1 = 1 then (1 : Int) else 0) = (s : Nat) := by split <;> omega
      walk_at "w"
      rw [show (((wd m : Nat) : Int) - 1).toNat = wd m - 1 by omega]
      refine for_uB h [4, 5, 7, 8] (fun j vs hh => ∃ o4 o5 o7 o8 kvs, vs = [o4, o5, o7, o8] ∧ hh mq = some (.lst [.int (-1), .int 1]) ∧ Tb low dp (loS S (wd m)) ((LA ++ (List.range s).flatMap fun s => (List.range (wd m - 1)).flatMap (keysW S (wd m) i s)) ++ (List.range j).flatMap (keysW S (wd m) i s)) hh kvs) [o4, o5, o7, o8] sb4 rfl ⟨_, _, _, _, kvs, rfl, em4, by rw [List.range_zero, List.flatMap_nil, List.append_nil]; exact tb4⟩ ?_ ?_
      · rintro j vs h5 N3 hj sb5 ⟨o4, o5, o7, o8, kvs, rfl, em5, tb5⟩ hN3
        have W2 : 2 ≤ wd m := by omega
        have W4 : wd m ≤ 4 := by omega
        generalize hLB : (LA ++ (List.range s).flatMap fun s => (List.range (wd m - 1)).flatMap (keysW S (wd m) i s)) ++ (List.range j).flatMap (keysW S (wd m) i s) = LB at tb5
        rw [show (1 : Int) + (j : Nat) = ((j + 1 : Nat) : Int) by omega]
        walk_at "w"
        refine lawprefixes_ok T (by omega) fun hp h6 f6 s6 e6 => ?_
        walk_at "w"
        rename_i N4 c4
        suffices key2 : ∀ (hz : DH) (o5 o7 : Option D) (kvs : List (Key × D)), Sub h hz → hz mq = some (.lst [.int (-1), .int 1]) → Tb low dp (loS S (wd m)) (LB ++ (List.range (2 ^ (j + 1))).map fun k : Nat => wrI (S : Nat) (wd m) (i : Nat) (s : Nat) (j + 1) (k : Nat)) hz kvs → N4 [some (.ref mp), some (.ref dp), some (.int (wd m : Nat)), some (.int (i : Nat)), some (.int ((j + 1 : Nat) : Int)), o5, some (.int (2 * (s : Nat) - 1)), o7, o8, none, none] hz by
          clear c4
          refine for_fB h [5, 7] (fun k vs hh => ∃ o5 o7 kvs, vs = [o5, o7] ∧ hh hp = some (.lst ((List.range (2 ^ (j + 1))).map fun k : Nat => .tup ((blk (j + 1) (k : Nat)).map D.int))) ∧ hh mq = some (.lst [.int (-1), .int 1]) ∧ Tb low dp (loS S (wd m)) (LB ++ (List.range k).map fun k : Nat => wrI (S : Nat) (wd m) (i : Nat) (s : Nat) (j + 1) (k : Nat)) hh kvs) [o5, o7] (sb5.trans s6) rfl (fun _ _ _ _ ⟨_, _, _, _, z, _⟩ => z) ⟨_, _, kvs, rfl, e6, s6 _ _ em5, by rw [List.range_zero, List.map_nil, List.append_nil]; exact tb5.sub s6⟩ ?_ ?_
          · rintro k x vs h7 N5 hx sb7 ⟨o5, o7, kvs, rfl, e7, em7, tb7⟩ hN5
            obtain ⟨k', hk', rfl⟩ := map_at hx
            obtain ⟨hkl, rfl⟩ : k < 2 ^ (j + 1) ∧ k = k' := by
              rw [List.getElem?_range (by have := (List.getElem?_eq_some_iff.mp hk').1; simpa using this)] at hk'
              exact ⟨by have := (List.getElem?_eq_some_iff.mp hx).1; simpa using this, Option.some.inj hk'⟩
            obtain ⟨r0, r1⟩ := wrI_in (S := S) W2 W4 (show 1 ≤ j + 1 by omega) (by omega) (show (0 : Int) ≤ (i : Nat) by omega) (by omega) hs01 (show (0 : Int) ≤ (k : Nat) by omega) (pow_lt hkl)
            have pr := pair_write (m := m) (rs := rs) W2 W4 (show 1 ≤ j + 1 by omega) (by omega) hi hs01 hkl
            rw [hlow] at pr
            have lk := tb7.len
            have ed := tb7.e
            have lb : (blk (j + 1) ((k : Nat) : Int)).length = j + 1 := blk_len
            walk_at "w"
            rename_i N6 c6
            suffices key3 : ∀ h8, Sub h7 h8 → N6 [some (.ref mp), some (.ref dp), some (.int (wd m : Nat)), some (.int (i : Nat)), some (.int ((j + 1 : Nat) : Int)), some (.tup ((blk (j + 1) (k : Nat)).map D.int)), some (.int (2 * (s : Nat) - 1)), some (rowD (writeRow (S : Nat) (wd m) (i : Nat) (s : Nat) (j + 1) (k : Nat))), o8, none, none] h8 by
              clear c6
              unfold writeRow at key3
              have lwr := fun (n k : Nat) (hn : n ≤ 4) (hk : k < 2 ^ n) => fun Q Qx q => lawwrite_ok (Q := Q) (Qx := Qx) T (it.sub sb7) hm hm' (st := ((i : Nat) : Int)) (d := 2 * ((s : Nat) : Int) - 1) (n := n) (k := k) hn hk (by omega) (by omega) (by omega) q
              have lgo := fun (k : Nat) (hk : k ≤ 4) => fun Q Qx q => lawgo_ok (Q := Q) (Qx := Qx) T (it.sub sb7) hm hm' (st := ((i : Nat) : Int)) (d := 2 * ((s : Nat) : Int) - 1) (k := k) hk (by omega) (by omega) (by omega) q
              rw [ifs] at lwr lgo
              split
              · rename_i z
                rw [if_pos (by omega)] at key3
                have sn : (blk (j + 1) ((k : Nat) : Int)).map D.int = (blk j ((k / 2 : Nat) : Int)).map D.int ++ [.int (((k : Nat) : Int) % 2)] := by
                  rw [blk_snoc, List.map_append, show ((k : Nat) : Int) / 2 = ((k / 2 : Nat) : Int) by omega]; rfl
                rw [sn] at key3 ⊢
                rw [atI_snoc]
                walk_at "w"
                rw [List.dropLast_concat]
                refine lwr j (k / 2) (by omega) (by rw [Nat.pow_succ] at hkl; omega) _ _ fun h8 s8 => ?_
                walk_at "w"
                exact key3 h8 s8
              · rename_i z
                rw [if_neg (by omega)] at key3
                obtain rfl : j = 0 := by omega
                have k2 : k < 2 := hkl
                have b1 : blk (0 + 1) ((k : Nat) : Int) = [((k : Nat) : Int)] := by
                  rw [blk_snoc, blk_zero, show ((k : Nat) : Int) % 2 = (k : Nat) by omega]; rfl
                rw [b1] at key3 ⊢
                rw [List.map_cons, zAt0]
                walk_at "w"
                rw [show ((wd m : Nat) : Int) - 1 = ((wd m - 1 : Nat) : Int) by omega]
                refine lgo (wd m - 1) (by omega) _ _ fun h8 s8 => ?_
                walk_at "w"
                exact key3 h8 s8
            intro h8 s78
            walk_at "w"
            rename Addr => a
            rename DH => h9
            rename h9 a = _ => ea
            rename Sub h8 h9 => s89
            have lwr := fun Q Qx q => lawwrite_ok (Q := Q) (Qx := Qx) T (it.sub ((sb7.trans s78).trans s89)) hm hm' (st := ((i : Nat) : Int)) (d := 2 * ((s : Nat) : Int) - 1) (n := j + 1) (k := k) (by omega) hkl (by omega) (by omega) (by omega) q
            rw [ifs] at lwr
            refine lwr _ _ fun h10 s10 => ?_
            have s710 : Sub h7 h10 := (s78.trans s89).trans s10
            have ed9 := s710 _ _ ed
            have ea10 := s10 _ _ ea
            walk_at "w"
            refine hN5 [_, _] _ _ ⟨_, _, putK2 kvs (.inl (wrI (S : Nat) (wd m) (i : Nat) (s : Nat) (j + 1) (k : Nat))) (.ref a), rfl, ?_, ?_, ?_⟩ rfl (sub_dup0 (sb7.trans s710) fd)
            · rw [dup_ne (fun z => by rw [z, ed] at e7; cases e7)]; exact s710 _ _ e7
            · rw [dup_ne (fun z => by rw [z, ed] at em7; cases em7)]; exact s710 _ _ em7
            · rw [map_succ]
              exact (tb7.sub s710).put ⟨r0, r1⟩ (by rw [pr]; exact ea10)
          · rintro vs h7 sb7 ⟨o5, o7, kvs, rfl, e7, em7, tb7⟩
            rw [List.length_map, List.length_range] at tb7
            exact key2 _ _ _ _ sb7 em7 tb7
        intro hz o5 o7 kvs sbz emz tbz
        obtain ⟨r0, r1⟩ := goI_in (S := S) W2 W4 (show 1 ≤ j + 1 by omega) (by omega) (show (0 : Int) ≤ (i : Nat) by omega) (by omega) hs01
        have pr := pair_go (m := m) (rs := rs) W2 W4 (show 1 ≤ j + 1 by omega) (by omega) hi hs01
        rw [hlow] at pr
        have lk := tbz.len
        have ed := tbz.e
        have lgo := fun (k : Nat) (hk : k ≤ 4) (hw : DH) (sw : Sub h hw) => fun Q Qx q => lawgo_ok (Q := Q) (Qx := Qx) T (it.sub sw) hm hm' (st := ((i : Nat) : Int)) (d := 2 * ((s : Nat) : Int) - 1) (k := k) hk (by omega) (by omega) (by omega) q
        rw [ifs] at lgo
        walk_at "w"
        rename_i N7 c7
        suffices key4 : ∀ (h8 : DH) (af : Int), Sub hz h8 → (∀ b : Int, goRow (S : Nat) (wd m) (i : Nat) (s : Nat) (j + 1) b = some (b, 2 * ((s : Nat) : Int) - 1, af)) → N7 [some (.ref mp), some (.ref dp), some (.int (wd m : Nat)), some (.int (i : Nat)), some (.int ((j + 1 : Nat) : Int)), o5, some (.int (2 * (s : Nat) - 1)), o7, some (.int af), none, none] h8 by
          clear c7
          split
          · rename_i z
            rw [show (((j + 1 : Nat) : Int) - 1) = (j : Nat) by omega]
            refine lgo j (by omega) hz sbz _ _ fun h8 s8 => ?_
            exact key4 h8 _ s8 fun b => by unfold goRow; rw [if_pos (by omega)]; rfl
          · rename_i z
            walk_at "w"
            have lr := fun Q Qx q => lawread_ok (Q := Q) (Qx := Qx) T (it.sub sbz) (st := ((i : Nat) : Int)) (n := 0) (k := 0) (by omega) (by decide) (by omega) (by omega) (by omega) q
            refine lr _ _ fun h8 s8 => ?_
            rw [show rdI (S : Nat) ((i : Nat) : Int) 0 ((0 : Nat) : Int) = (i : Nat) by unfold rdI; simp]
            exact key4 h8 _ s8 fun b => by unfold goRow; rw [if_neg (by omega)]
        intro h8 af s8 hgo
        rw [hgo, hgo] at pr
        walk_at "w"
        rename Addr => a
        rename DH => h9
        rename h9 a = _ => ea
        rename Sub h8 h9 => s89
        refine lgo (j + 1) (by omega) h9 ((sbz.trans s8).trans s89) _ _ fun h10 s10 => ?_
        have s710 : Sub hz h10 := (s8.trans s89).trans s10
        have ed9 := s710 _ _ ed
        have ea10 := s10 _ _ ea
        walk_at "w"
        refine hN3 [_, _, _, _] _ _ ⟨_, _, _, _, putK2 kvs (.inl (goI (S : Nat) (wd m) (i : Nat) (s : Nat) ((j + 1 : Nat) : Int))) (.ref a), rfl, ?_, ?_⟩ rfl (sub_dup0 (sbz.trans s710) fd)
        · rw [dup_ne (fun z => by rw [z, ed] at emz; cases emz)]; exact s710 _ _ emz
        · have z := (tbz.sub s710).put ⟨r0, r1⟩ (show h10 a = _ by rw [pr]; exact ea10)
          rw [flat_succ, hLB]
          unfold keysW
          rw [← List.append_assoc]
          exact z
      · rintro vs h5 sb5 ⟨o4, o5, o7, o8, kvs, rfl, em5, tb5⟩
        exact hN2 [_, _, _, _, _] _ _ ⟨_, _, _, _, _, kvs, rfl, em5, by rw [flat_succ]; exact tb5⟩ rfl sb5
    · rintro vs h4 sb4 ⟨o4, o5, o6, o7, o8, kvs, rfl, em4, tb4⟩
      refine hN [_, _, _, _, _, _] _ _ ⟨_, _, _, _, _, _, kvs, rfl, ?_⟩ rfl sb4
      have z : Tb low dp (loS S (wd m)) (LA ++ (List.range 2).flatMap fun s => (List.range (wd m - 1)).flatMap (keysW S (wd m) i s)) h4 kvs := tb4
      rw [← hLA, List.append_assoc] at z
      rw [List.range_succ, List.flatMap_append, List.flatMap_singleton]
      exact z
  · rintro vs hh sb ⟨o3, o4, o5, o6, o7, o8, kvs, rfl, tb⟩
    walk_at "w"
    rename Addr => fp
    rename hh fp = none => ff
    rename DH => h5
    rename h5 fp = _ => e5
    rename Sub hh h5 => s5
    have tb5 := tb.sub s5
    have hS' : (((S : Nat) : Int)).toNat = S := Int.toNat_natCast S
    have ek : kvs.map (·.1) = (kvs.map fun kv => (match kv.1 with | .inl y => y | .inr _ => 0 : Int)).map Sum.inl := by
      rw [List.map_map]
      refine List.map_congr_left fun kv hkv => ?_
      obtain ⟨j, hj, e⟩ := List.getElem_of_mem hkv
      obtain ⟨y, a, h1, _⟩ := tb.ks kv.1 kv.2 (valD_at tb.nd (by rw [List.getElem?_eq_getElem hj, e]))
      obtain ⟨k1, d1⟩ := kv
      have h1 : k1 = .inl y := h1
      subst h1; rfl
    generalize (kvs.map fun kv => (match kv.1 with | .inl y => y | .inr _ => 0 : Int)) = ks at ek
    have kmem : ∀ z : Int, z ∈ ks ↔ 0 ≤ z ∧ z < (loS S (wd m) : Nat) := fun z => by
      constructor
      · intro hz
        have : (Sum.inl z : Key) ∈ kvs.map (·.1) := by rw [ek]; exact List.mem_map.mpr ⟨z, hz, rfl⟩
        obtain ⟨kv, hkv, e1⟩ := List.mem_map.mp this
        obtain ⟨j, hj, e⟩ := List.getElem_of_mem hkv
        obtain ⟨y, a, h1, _, h3, _⟩ := tb.ks kv.1 kv.2 (valD_at tb.nd (by rw [List.getElem?_eq_getElem hj, e]))
        rw [e1] at h1
        injection h1 with h1
        rw [h1]; exact h3
      · intro hz
        obtain ⟨n, rfl⟩ := Int.eq_ofNat_of_zero_le hz.1
        obtain ⟨d, hd⟩ := tb.al _ (keys_all (by omega : 1 ≤ wd m) (by omega) (show n < loS S (wd m) by omega))
        have : (Sum.inl ((n : Nat) : Int) : Key) ∈ kvs.map (·.1) := List.mem_map.mpr ⟨_, valD_mem hd, rfl⟩
        rw [ek] at this
        obtain ⟨y, hy, e⟩ := List.mem_map.mp this
        injection e with e
        rw [← e]; exact hy
    have knd : ks.Nodup := by
      have := tb.nd
      rw [ek] at this
      exact (List.pairwise_map.mp this).imp fun {a b} h e => h (congrArg _ e)
    refine sortK_i tb5.e ek fun ys pm so => ?_
    have ey := sorted_range (n := loS S (wd m)) (pm.nodup_iff.mpr knd) so fun z => by rw [pm.mem_iff]; exact kmem z
    subst ey
    walk_at "w"
    rename Addr => yp
    rename h5 yp = none => fy
    rename DH => h6
    rename h6 yp = _ => e6
    rename Sub h5 h6 => s6
    have ll : low.length = 2 * loS S (wd m) := by rw [← hlow]; exact low_len (by omega) (by omega)
    refine for_fB h [3, 9] (fun k vs hh => ∃ o3 fp, vs = [o3, some (.ref fp)] ∧ h fp = none ∧ hh fp = some (.lst (((List.range k).flatMap fun z => pairZ low (z : Nat)).map rowD)) ∧ hh yp = some (.lst (((List.range (loS S (wd m))).map fun k : Nat => (k : Int)).map D.int)) ∧ Tb low dp (loS S (wd m)) ((List.range S).flatMap (keysS S (wd m))) hh kvs) [o3, some (.ref fp)] ((sb.trans s5).trans s6) rfl (fun _ _ _ _ ⟨_, _, _, _, _, z, _⟩ => z) ⟨o3, fp, rfl, sb.fresh ff, s6 _ _ e5, e6, tb5.sub s6⟩ ?_ ?_
    · rintro k x vs h7 N2 hx sb7 ⟨o3, fp, rfl, _, e7, y7, tb7⟩ hN2
      obtain ⟨z, hz, rfl⟩ := map_at hx
      obtain ⟨hkl, rfl⟩ : k < loS S (wd m) ∧ z = (k : Nat) := by
        have l : k < loS S (wd m) := by have := (List.getElem?_eq_some_iff.mp hx).1; simpa using this
        rw [List.getElem?_map, List.getElem?_range l] at hz
        exact ⟨l, (Option.some.inj hz).symm⟩
      obtain ⟨d, hd⟩ := tb7.al _ (keys_all (by omega : 1 ≤ wd m) (by omega) hkl)
      obtain ⟨y, a, h1, rfl, h3, h4⟩ := tb7.ks _ _ hd
      injection h1 with h1
      subst h1
      have ed := tb7.e
      have lf : (((List.range k).flatMap fun z => pairZ low (z : Nat)).map rowD).length ≤ 10000 := by
        rw [List.length_map, pairs_take k (by omega), List.length_take]; omega
      have lp : ((pairZ low ((k : Nat) : Int)).map rowD).length = 2 := rfl
      walk_at "w"
      rw [hd]
      dsimp only
      refine gAddL_i e7 h4 (by rw [lp, sizeLine_eq]; omega) ?_
      walk_at "w"
      rename Addr => gp
      rename h7 gp = none => fgp
      rename DH => h8
      rename h8 gp = _ => e8
      rename Sub h7 h8 => s8
      refine hN2 [_, _] _ _ ⟨_, gp, rfl, sb7.fresh fgp, ?_, s8 _ _ y7, tb7.sub s8⟩ rfl (sb7.trans s8)
      rw [e8, List.range_succ, List.flatMap_append, List.flatMap_singleton, List.map_append]
    · rintro vs h7 sb7 ⟨o3, gp, rfl, fg, e7, y7, tb7⟩
      rw [List.length_map, List.length_map, List.length_range, pairs_take _ (by omega), List.take_of_length_le (by omega)] at e7
      walk_at "w"
      exact rt_go (by assumption) (q gp h7 fg sb7 (by rw [hlow]; exact e7))
theorem tape_table_w (T : Tx K mg) {h : DH} {Q : QD} {Qx : QX} {p : Addr} {m s : Int} {rs : List Rw} (it : IsTape T h p m s rs) (q : ∀ rp h', h rp = none → Sub h h' → h' rp = some (.lst (rs.map rowD)) → Q (.ref rp) h') : W_Tape_table T [.ref p] h Q Qx := by
  obtain ⟨rp, i1, i2⟩ := it
  unfold tapeF at i1
  walk_at "wf"
  exact rt_go (by assumption) (q _ _ (by assumption) (by assumption) (by assumption))
theorem lawint_ok (T : Tx K mg) {h : DH} {Q : QD} {Qx : QX} {i : Int} (q : Q (.bl true) h) : W_law_is_integer T [.int i] h Q Qx := by
  walk_at "df"
  try simp
  walk_at "rt"
local macro_rules | `(tactic| walk_at "wcall") => `(tactic| (with_reducible refine lawint_ok _ ?_))
theorem pl_row (r : Rw) : plN 1 (rowD r) = true := by
  cases r with
  | none => rfl
  | some r =>
    obtain ⟨w, v, t⟩ := r
    refine plT ?_
    rw [List.all_cons, List.all_cons, List.all_cons, plI, plI, plI]; rfl
theorem pl_rows (rs : List Rw) : (rs.map rowD).all (plN 1) = true := by
  rw [List.all_map, List.all_eq_true]; intro x _; exact pl_row x
local macro_rules | `(tactic| walk_at "plx") => `(tactic| with_reducible exact plA_le (pl_rows _) (by decide))
theorem nones {n : Nat} : (List.replicate n [D.non]).flatten = (List.replicate n (none : Rw)).map rowD := by
  rw [List.flatten_replicate_singleton, List.map_replicate]; rfl
theorem nones_ok {n : Nat} {m s : Int} : ∀ r ∈ List.replicate n (none : Rw), RowOk m s r := fun r hr => by rw [(List.mem_replicate.mp hr).2]; trivial
theorem two_parts {T : Tx K mg} {h : DH} {p : Addr} {m : Int} {S : Nat} {rs : List Rw} (is : IsTwo T h p m S rs) : ∃ mp lp lr ur, (h p = some (.ins T.C_TwoMarks (twoF3 mp lp (wd m))) ∧ IsTape T h lp 2 (loS S (wd m) : Nat) (lowRows S (wd m) m rs) ∧ h lp = some (.ins T.C_Tape (tapeF 2 (loS S (wd m) : Nat) lr))) ∧ IsTape T h mp m (S : Nat) rs ∧ h mp = some (.ins T.C_Tape (tapeF m (S : Nat) ur)) := by
  obtain ⟨mp, lp, e1, ⟨ur, u1, u2⟩, lr, e3, e4⟩ := is
  exact ⟨mp, lp, lr, ur, ⟨e1, ⟨lr, e3, e4⟩, e3⟩, ⟨ur, u1, u2⟩, u1⟩
theorem tworef_ok (T : Tx K mg) {h : DH} {Q : QD} {Qx : QX} {mp : Addr} {m : Int} {S : Nat} {rs : List Rw} (it : IsTape T h mp m (S : Nat) rs) (hm : 2 ≤ m) (hm' : m ≤ 16) (hS : S ≤ 4000) (hL : 4000 < loS S (wd m))
    (q : ∀ h', Sub h h' → Q (.bl true) h') : W_law_refused T [.ref mp] h Q Qx := by
  obtain ⟨rp, i1, i2⟩ := id it
  unfold tapeF at i1
  have hw := wd_cases hm hm'
  have st : ((S : Nat) : Int) * (3 * (1 * 2 ^ wd m) + 2 * (wd m : Nat) - 7) = (loS S (wd m) : Nat) := by
    rcases loS_is (S := S) (by omega : 1 ≤ wd m) (by omega) with ⟨e, e5⟩ | ⟨e, e5⟩ | ⟨e, e5⟩ | ⟨e, e5⟩ <;> (rw [e] at e5 ⊢; rw [e5]; simp only [Int.reducePow, Int.reduceMul]; omega)
  have pw : (1 : Int) * 2 ^ wd m ≤ 16 ∧ 0 ≤ (1 : Int) * 2 ^ wd m := by
    rcases hw with ⟨e, _⟩ | ⟨e, _⟩ | ⟨e, _⟩ | ⟨e, _⟩ <;> (rw [e]; decide)
  walk_at "wf"
  intro p f
  have i1' := dup_old (o := .ins T.C_TwoMarks []) i1 f
  have i2' := dup_old (o := .ins T.C_TwoMarks []) i2 f
  walk_at "wf"
  exact rt_go (by assumption) (q _ (Sub.new f))
/-- a machine without rows, and its stair -/
theorem empty_two (T : Tx K mg) {h : DH} {Q : QD} {Qx : QX} {l : Addr} {n : Nat} {m : Int} {S : Nat} (e : h l = some (.lst (List.replicate n [D.non]).flatten)) (hm : 2 ≤ m) (hm' : m ≤ 16) (hS : 1 ≤ S) (hS' : S ≤ 4000) (hn : n = (m * (S : Nat)).toNat)
    (q : ∀ p h', Sub h h' → IsTape T h' p m (S : Nat) (List.replicate n none) → Q (.ref p) h') : Make T.C_Tape (W_Tapedd_initdd T) [.int m, .int (S : Nat), .ref l] h Q Qx := by
  rw [nones] at e
  exact tape_make T hm hm' (by omega) (by omega) e (by rw [List.length_replicate]; exact hn) nones_ok fun p h' s f it => q p h' s it
theorem law_true {K : PySem.W.Frag} {mg : Str → Option Value} (T : Tx K mg) (ns : List Int) (hl : ns.length ≤ 63) : W_law T [.sl (ns.map D.int)] (fun _ => none) (fun d _ => d = .bl true) (fun _ _ => False) := by
  walk_at "wf"
  refine lawdigits_ok T (by decide) (by decide) (by decide) (by decide) fun dp ds h1 f1 s1 e1 l1 r1 => ?_
  walk_at "w"
  refine lawtape16_ok T e1 l1 r1 fun mp M S rs h2 s2 it hM hS hl2 ok => ?_
  have m2 : (2 : Int) ≤ (M : Nat) := by omega
  have m16 : ((M : Nat) : Int) ≤ 16 := by omega
  have hw := wd_cases m2 m16
  have hl3 : rs.length = (((M : Nat) : Int) * ((S : Nat) : Int)).toNat := by rw [hl2, ← Int.natCast_mul, Int.toNat_natCast, Nat.mul_comm]
  have lL : loS S (wd (M : Nat)) ≤ 4000 := by rcases loS_is (S := S) (by omega : 1 ≤ wd (M : Nat)) (by omega) with ⟨e, e5⟩ | ⟨e, e5⟩ | ⟨e, e5⟩ | ⟨e, e5⟩ <;> omega
  obtain ⟨rp, i1, i2⟩ := id it
  unfold tapeF at i1
  walk_at "w"
  split
  · walk_at "w"
    rename Addr => l3
    rename DH => h3
    rename h3 l3 = _ => e3
    rename Sub _ h3 => s3
    refine empty_two T (m := 16) (S := 81) e3 (by decide) (by decide) (by decide) (by decide) rfl fun p4 h4 s4 it4 => ?_
    refine two_make T it4 (by decide) (by decide) (by decide) (by rw [List.length_replicate]; rfl) nones_ok (by decide) fun t5 h5 s5 f5 is5 => ?_
    obtain ⟨_, lp5, lr5, _, ⟨j1, _, j2⟩, _, _⟩ := two_parts is5
    rw [show loS 81 (wd 16) = 3969 from rfl] at j2
    unfold tapeF at j2
    walk_at "w"
    rename Addr => l6
    rename DH => h6
    rename h6 l6 = _ => e6
    refine empty_two T (m := 4) (S := 444) e6 (by decide) (by decide) (by decide) (by decide) rfl fun p7 h7 s7 it7 => ?_
    refine two_make T it7 (by decide) (by decide) (by decide) (by rw [List.length_replicate]; rfl) nones_ok (by decide) fun t8 h8 s8 f8 is8 => ?_
    obtain ⟨_, lp8, lr8, _, ⟨k1, _, k2⟩, _, _⟩ := two_parts is8
    rw [show loS 444 (wd 4) = 3996 from rfl] at k2
    unfold tapeF at k2
    walk_at "w"
    rename Addr => l9
    rename DH => h9
    rename h9 l9 = _ => e9
    refine empty_two T (m := 16) (S := 82) e9 (by decide) (by decide) (by decide) (by decide) rfl fun p10 h10 s10 it10 => ?_
    refine tworef_ok T it10 (by decide) (by decide) (by decide) (by decide) fun h11 s11 => ?_
    walk_at "w"
    rename Addr => l12
    rename DH => h12
    rename h12 l12 = _ => e12
    refine empty_two T (m := 4) (S := 445) e12 (by decide) (by decide) (by decide) (by decide) rfl fun p13 h13 s13 it13 => ?_
    refine tworef_ok T it13 (by decide) (by decide) (by decide) (by decide) fun h14 s14 => ?_
    walk_at "w"
  · walk_at "w"
    refine lawwidth_ok T m2 m16 fun h3 s3 => ?_
    walk_at "w"
    have it3 := it.sub s3
    have ei1 := s3 _ _ i1
    have hW4 : wd ((M : Nat) : Int) ≤ 4 := by omega
    have pwW : ((M : Nat) : Int) ≤ 2 ^ wd ((M : Nat) : Int) := by rcases hw with ⟨e, _⟩ | ⟨e, _⟩ | ⟨e, _⟩ | ⟨e, _⟩ <;> (rw [e]; simp only [Int.reducePow]; omega)
    clear i1 i2
    refine for_u [4, 5] (fun i vs hh => ∃ o4 o5, vs = [o4, o5]) [none, none] rfl ⟨_, _, rfl⟩ ?_ ?_
    · rintro i vs hh N hi sb ⟨o4, o5, rfl⟩ hN
      rw [Int.zero_add]
      have vb := vB_blk (n := wd ((M : Nat) : Int)) (x := ((i : Nat) : Int)) (by omega) (by omega)
      have lb : (blk (wd ((M : Nat) : Int)) ((i : Nat) : Int)).length = wd ((M : Nat) : Int) := blk_len
      walk_at "w"
      refine lawblock_ok T m2 m16 (by omega) (by omega) fun h4 s4 => ?_
      walk_at "w"
      refine markof_ok T m2 m16 blk_bit lb fun h5 s5 => ?_
      rw [vb, if_pos (by omega)]
      walk_at "w"
      exact hN [_, _] _ _ ⟨_, _, rfl⟩ rfl (by walk_at "ws")
    · rintro vs hh sb ⟨o4, o5, rfl⟩
      walk_at "w"
      refine lawprefixes_ok T hW4 fun hp h4 f4 s4 e4 => ?_
      walk_at "w"
      have s34 : Sub h3 h4 := by walk_at "ws"
      have it4 := it3.sub s34
      have ei4 := s34 _ _ ei1
      refine for_f [5, 6] (fun i vs hh => ∃ o5 o6, vs = [o5, o6]) [o5, none] rfl (fun h' s => s _ _ e4) ⟨_, _, rfl⟩ ?_ ?_
      · rintro k x vs h5 N hx sb5 ⟨o5, o6, rfl⟩ hN
        obtain ⟨k', hk', rfl⟩ := map_at hx
        obtain ⟨hkl, rfl⟩ : k < 2 ^ wd ((M : Nat) : Int) ∧ k = k' := by
          rw [List.getElem?_range (by have := (List.getElem?_eq_some_iff.mp hk').1; simpa using this)] at hk'
          exact ⟨by have := (List.getElem?_eq_some_iff.mp hx).1; simpa using this, Option.some.inj hk'⟩
        have vb := vB_blk (n := wd ((M : Nat) : Int)) (x := ((k : Nat) : Int)) (by omega) (pow_lt hkl)
        have lb : (blk (wd ((M : Nat) : Int)) ((k : Nat) : Int)).length = wd ((M : Nat) : Int) := blk_len
        walk_at "w"
        refine lawvalue_ok T blk_bit (by omega) ?_
        rw [vb]
        walk_at "w"
        split
        · rename_i z
          walk_at "w"
          refine lawvalue_ok T blk_bit (by omega) ?_
          rw [vb]
          walk_at "w"
          refine markof_ok T m2 m16 blk_bit lb fun h6 s6 => ?_
          rw [vb, if_pos (by omega)]
          walk_at "w"
          exact hN [_, _] _ _ ⟨_, _, rfl⟩ rfl (by walk_at "ws")
        · rename_i z
          walk_at "w"
          refine markof_ok T m2 m16 blk_bit lb fun h6 s6 => ?_
          rw [vb, if_neg (by omega)]
          walk_at "w"
          exact hN [_, _] _ _ ⟨_, _, rfl⟩ rfl (by walk_at "ws")
      · rintro vs h5 sb5 ⟨o5, o6, rfl⟩
        walk_at "w"
        refine two_make T (it4.sub sb5) m2 m16 hS.1 hl3 ok lL fun tp h6 s6 f6 is => ?_
        obtain ⟨up, lp, lr, ur, ⟨j1, il, j2⟩, iu, j3⟩ := two_parts is
        unfold tapeF at j2 j3
        have s46 : Sub h4 h6 := sb5.trans s6
        have it6 := it4.sub s46
        have ei6 := s46 _ _ ei4
        walk_at "w"
        refine tape_table_w T iu fun p7 h7 f7 s7 e7 => ?_
        walk_at "w"
        refine tape_table_w T (it6.sub (by walk_at "ws")) fun p8 h8 f8 s8 e8 => ?_
        walk_at "w"
        refine lawpower_ok T hW4 fun h9 s9 => ?_
        walk_at "w"
        have cst : ((loS S (wd ((M : Nat) : Int)) : Nat) : Int) = ((S : Nat) : Int) * (3 * ((2 ^ wd ((M : Nat) : Int) : Nat) : Int) + 2 * ((wd ((M : Nat) : Int) : Nat) : Int) - 7) := by
          rcases loS_is (S := S) (by omega : 1 ≤ wd ((M : Nat) : Int)) (by omega) with ⟨e, e5⟩ | ⟨e, e5⟩ | ⟨e, e5⟩ | ⟨e, e5⟩ <;> (rw [e5, e]; simp only [Nat.reducePow]; omega)
        rw [if_pos cst]
        have s69 : Sub h6 h9 := by walk_at "ws"
        have it9 := it6.sub s69
        have il9 := il.sub s69
        have j19 := s69 _ _ j1
        have j29 := s69 _ _ j2
        walk_at "w"
        refine tape_table_w T il9 fun p10 h10 f10 s10 e10 => ?_
        refine lawrowsT_ok T (it9.sub s10) m2 m16 hl3 ok hS.2 fun p11 h11 f11 s11 e11 => ?_
        walk_at "w"
end
theorem all_mk {P : Program} {w : World} {K : PySem.W.Frag} {h : Heap} {mg : Str → Option Value} {fa : Addr} (X : K.In h) (G : h.Ns mainGlobals mg) (hfa : mg "law" = some (.ref fa))
    {CTape : Addr}
    {CTwoMarks : Addr}
    {flaw_cell : Addr} {odlaw_cell anlaw_cell : Option Addr} {sllaw_cell : Array (Option Value)} {oclaw_cell kVlaw_cell dclaw_cell pmlaw_cell cdlaw_cell ctlaw_cell : Value}
    {flaw_mixed : Addr} {odlaw_mixed anlaw_mixed : Option Addr} {sllaw_mixed : Array (Option Value)} {oclaw_mixed kVlaw_mixed dclaw_mixed pmlaw_mixed cdlaw_mixed ctlaw_mixed : Value}
    {flaw_digits : Addr} {odlaw_digits anlaw_digits : Option Addr} {sllaw_digits : Array (Option Value)} {oclaw_digits kVlaw_digits dclaw_digits pmlaw_digits cdlaw_digits ctlaw_digits : Value}
    {fis_whole : Addr} {odis_whole anis_whole : Option Addr} {slis_whole : Array (Option Value)} {ocis_whole kVis_whole dcis_whole pmis_whole cdis_whole ctis_whole : Value}
    {fis_number : Addr} {odis_number anis_number : Option Addr} {slis_number : Array (Option Value)} {ocis_number kVis_number dcis_number pmis_number cdis_number ctis_number : Value}
    {fis_row : Addr} {odis_row anis_row : Option Addr} {slis_row : Array (Option Value)} {ocis_row kVis_row dcis_row pmis_row cdis_row ctis_row : Value}
    {fTapedd_initdd : Addr} {odTapedd_initdd anTapedd_initdd : Option Addr} {slTapedd_initdd : Array (Option Value)} {ocTapedd_initdd kVTapedd_initdd dcTapedd_initdd pmTapedd_initdd cdTapedd_initdd ctTapedd_initdd : Value}
    {flaw_tape : Addr} {odlaw_tape anlaw_tape : Option Addr} {sllaw_tape : Array (Option Value)} {oclaw_tape kVlaw_tape dclaw_tape pmlaw_tape cdlaw_tape ctlaw_tape : Value}
    {fwidth : Addr} {odwidth anwidth : Option Addr} {slwidth : Array (Option Value)} {ocwidth kVwidth dcwidth pmwidth cdwidth ctwidth : Value}
    {fTwoMarksddread : Addr} {odTwoMarksddread anTwoMarksddread : Option Addr} {slTwoMarksddread : Array (Option Value)} {ocTwoMarksddread kVTwoMarksddread dcTwoMarksddread pmTwoMarksddread cdTwoMarksddread ctTwoMarksddread : Value}
    {fTape_row : Addr} {odTape_row anTape_row : Option Addr} {slTape_row : Array (Option Value)} {ocTape_row kVTape_row dcTape_row pmTape_row cdTape_row ctTape_row : Value}
    {fTwoMarksddwrite : Addr} {odTwoMarksddwrite anTwoMarksddwrite : Option Addr} {slTwoMarksddwrite : Array (Option Value)} {ocTwoMarksddwrite kVTwoMarksddwrite dcTwoMarksddwrite pmTwoMarksddwrite cdTwoMarksddwrite ctTwoMarksddwrite : Value}
    {fTwoMarksddread_row : Addr} {odTwoMarksddread_row anTwoMarksddread_row : Option Addr} {slTwoMarksddread_row : Array (Option Value)} {ocTwoMarksddread_row kVTwoMarksddread_row dcTwoMarksddread_row pmTwoMarksddread_row cdTwoMarksddread_row ctTwoMarksddread_row : Value}
    {fTwoMarksddread_rows : Addr} {odTwoMarksddread_rows anTwoMarksddread_rows : Option Addr} {slTwoMarksddread_rows : Array (Option Value)} {ocTwoMarksddread_rows kVTwoMarksddread_rows dcTwoMarksddread_rows pmTwoMarksddread_rows cdTwoMarksddread_rows ctTwoMarksddread_rows : Value}
    {fTwoMarksddgo : Addr} {odTwoMarksddgo anTwoMarksddgo : Option Addr} {slTwoMarksddgo : Array (Option Value)} {ocTwoMarksddgo kVTwoMarksddgo dcTwoMarksddgo pmTwoMarksddgo cdTwoMarksddgo ctTwoMarksddgo : Value}
    {fTwoMarksddwrite_row : Addr} {odTwoMarksddwrite_row anTwoMarksddwrite_row : Option Addr} {slTwoMarksddwrite_row : Array (Option Value)} {ocTwoMarksddwrite_row kVTwoMarksddwrite_row dcTwoMarksddwrite_row pmTwoMarksddwrite_row cdTwoMarksddwrite_row ctTwoMarksddwrite_row : Value}
    {fTwoMarksddwrite_rows : Addr} {odTwoMarksddwrite_rows anTwoMarksddwrite_rows : Option Addr} {slTwoMarksddwrite_rows : Array (Option Value)} {ocTwoMarksddwrite_rows kVTwoMarksddwrite_rows dcTwoMarksddwrite_rows pmTwoMarksddwrite_rows cdTwoMarksddwrite_rows ctTwoMarksddwrite_rows : Value}
    {fTwoMarksddgo_row : Addr} {odTwoMarksddgo_row anTwoMarksddgo_row : Option Addr} {slTwoMarksddgo_row : Array (Option Value)} {ocTwoMarksddgo_row kVTwoMarksddgo_row dcTwoMarksddgo_row pmTwoMarksddgo_row cdTwoMarksddgo_row ctTwoMarksddgo_row : Value}
    {fTwoMarksddgo_rows : Addr} {odTwoMarksddgo_rows anTwoMarksddgo_rows : Option Addr} {slTwoMarksddgo_rows : Array (Option Value)} {ocTwoMarksddgo_rows kVTwoMarksddgo_rows dcTwoMarksddgo_rows pmTwoMarksddgo_rows cdTwoMarksddgo_rows ctTwoMarksddgo_rows : Value}
    {fTwoMarksdd_initdd : Addr} {odTwoMarksdd_initdd anTwoMarksdd_initdd : Option Addr} {slTwoMarksdd_initdd : Array (Option Value)} {ocTwoMarksdd_initdd kVTwoMarksdd_initdd dcTwoMarksdd_initdd pmTwoMarksdd_initdd cdTwoMarksdd_initdd ctTwoMarksdd_initdd : Value}
    {flaw_refused : Addr} {odlaw_refused anlaw_refused : Option Addr} {sllaw_refused : Array (Option Value)} {oclaw_refused kVlaw_refused dclaw_refused pmlaw_refused cdlaw_refused ctlaw_refused : Value}
    {flaw_width : Addr} {odlaw_width anlaw_width : Option Addr} {sllaw_width : Array (Option Value)} {oclaw_width kVlaw_width dclaw_width pmlaw_width cdlaw_width ctlaw_width : Value}
    {flaw_is_integer : Addr} {odlaw_is_integer anlaw_is_integer : Option Addr} {sllaw_is_integer : Array (Option Value)} {oclaw_is_integer kVlaw_is_integer dclaw_is_integer pmlaw_is_integer cdlaw_is_integer ctlaw_is_integer : Value}
    {fblock : Addr} {odblock anblock : Option Addr} {slblock : Array (Option Value)} {ocblock kVblock dcblock pmblock cdblock ctblock : Value}
    {fare_numbers : Addr} {odare_numbers anare_numbers : Option Addr} {slare_numbers : Array (Option Value)} {ocare_numbers kVare_numbers dcare_numbers pmare_numbers cdare_numbers ctare_numbers : Value}
    {fmark_of : Addr} {odmark_of anmark_of : Option Addr} {slmark_of : Array (Option Value)} {ocmark_of kVmark_of dcmark_of pmmark_of cdmark_of ctmark_of : Value}
    {flaw_block : Addr} {odlaw_block anlaw_block : Option Addr} {sllaw_block : Array (Option Value)} {oclaw_block kVlaw_block dclaw_block pmlaw_block cdlaw_block ctlaw_block : Value}
    {flaw_power : Addr} {odlaw_power anlaw_power : Option Addr} {sllaw_power : Array (Option Value)} {oclaw_power kVlaw_power dclaw_power pmlaw_power cdlaw_power ctlaw_power : Value}
    {flaw_prefixes : Addr} {odlaw_prefixes anlaw_prefixes : Option Addr} {sllaw_prefixes : Array (Option Value)} {oclaw_prefixes kVlaw_prefixes dclaw_prefixes pmlaw_prefixes cdlaw_prefixes ctlaw_prefixes : Value}
    {flaw_value : Addr} {odlaw_value anlaw_value : Option Addr} {sllaw_value : Array (Option Value)} {oclaw_value kVlaw_value dclaw_value pmlaw_value cdlaw_value ctlaw_value : Value}
    {fTape_table : Addr} {odTape_table anTape_table : Option Addr} {slTape_table : Array (Option Value)} {ocTape_table kVTape_table dcTape_table pmTape_table cdTape_table ctTape_table : Value}
    {flaw_read : Addr} {odlaw_read anlaw_read : Option Addr} {sllaw_read : Array (Option Value)} {oclaw_read kVlaw_read dclaw_read pmlaw_read cdlaw_read ctlaw_read : Value}
    {flaw_write : Addr} {odlaw_write anlaw_write : Option Addr} {sllaw_write : Array (Option Value)} {oclaw_write kVlaw_write dclaw_write pmlaw_write cdlaw_write ctlaw_write : Value}
    {flaw_read_row : Addr} {odlaw_read_row anlaw_read_row : Option Addr} {sllaw_read_row : Array (Option Value)} {oclaw_read_row kVlaw_read_row dclaw_read_row pmlaw_read_row cdlaw_read_row ctlaw_read_row : Value}
    {flaw_go : Addr} {odlaw_go anlaw_go : Option Addr} {sllaw_go : Array (Option Value)} {oclaw_go kVlaw_go dclaw_go pmlaw_go cdlaw_go ctlaw_go : Value}
    {flaw_rows : Addr} {odlaw_rows anlaw_rows : Option Addr} {sllaw_rows : Array (Option Value)} {oclaw_rows kVlaw_rows dclaw_rows pmlaw_rows cdlaw_rows ctlaw_rows : Value}
    {flaw : Addr} {odlaw anlaw : Option Addr} {sllaw : Array (Option Value)} {oclaw kVlaw dclaw pmlaw cdlaw ctlaw : Value}
    {tFEWEST_MARKS : Tok}
    {tMOST_MARKS : Tok}
    {tMOST_STATES : Tok}
    {XBadMachine : Addr}
    {XBadMark : Addr}
    {XStairError : Addr}
    (acTape : PySem.W.nsIn K mainGlobals "Tape" = some (some (.ref CTape)))
    (pgTape : PySem.W.plainGet K CTape Str.empty = true)
    (hdTape : PySem.W.hasDictIn K CTape = true)
    (poTape : PySem.W.plainOver K CTape = true)
    (saTape : PySem.W.findIn K (.ref CTape) "__setattr__" = some (some (.builtin "object.__setattr__")))
    (mkTape : PySem.W.makesIn K CTape = true)
    (kcTape : PySem.W.keepIn K (.ref CTape) = true)
    (naTapemarks : PySem.W.findIn K (.ref CTape) "marks" = some none)
    (naTapestates : PySem.W.findIn K (.ref CTape) "states" = some none)
    (naTape_rows : PySem.W.findIn K (.ref CTape) "_rows" = some none)
    (acTwoMarks : PySem.W.nsIn K mainGlobals "TwoMarks" = some (some (.ref CTwoMarks)))
    (pgTwoMarks : PySem.W.plainGet K CTwoMarks Str.empty = true)
    (hdTwoMarks : PySem.W.hasDictIn K CTwoMarks = true)
    (poTwoMarks : PySem.W.plainOver K CTwoMarks = true)
    (saTwoMarks : PySem.W.findIn K (.ref CTwoMarks) "__setattr__" = some (some (.builtin "object.__setattr__")))
    (mkTwoMarks : PySem.W.makesIn K CTwoMarks = true)
    (kcTwoMarks : PySem.W.keepIn K (.ref CTwoMarks) = true)
    (naTwoMarksupper : PySem.W.findIn K (.ref CTwoMarks) "upper" = some none)
    (naTwoMarks_width : PySem.W.findIn K (.ref CTwoMarks) "_width" = some none)
    (naTwoMarkslower : PySem.W.findIn K (.ref CTwoMarks) "lower" = some none)
    (awlaw_cell : PySem.W.nsIn K mainGlobals "_law_cell" = some (some (.ref flaw_cell)))
    (lllaw_cell : K.lookup flaw_cell = some ⟨oclaw_cell, odlaw_cell, .func (PySem.W.fnOf "_law_cell" "_law_cell" (defArgs s_law_cell) (defBody s_law_cell) (defScope s_law_cell) .none kVlaw_cell dclaw_cell pmlaw_cell anlaw_cell cdlaw_cell ctlaw_cell), sllaw_cell⟩)
    (cclaw_cell : PySem.W.codeIn K cdlaw_cell "_law_cell" = true)
    (kklaw_cell : PySem.W.keepIn K (.ref flaw_cell) = true)
    (awlaw_mixed : PySem.W.nsIn K mainGlobals "_law_mixed" = some (some (.ref flaw_mixed)))
    (lllaw_mixed : K.lookup flaw_mixed = some ⟨oclaw_mixed, odlaw_mixed, .func (PySem.W.fnOf "_law_mixed" "_law_mixed" (defArgs s_law_mixed) (defBody s_law_mixed) (defScope s_law_mixed) .none kVlaw_mixed dclaw_mixed pmlaw_mixed anlaw_mixed cdlaw_mixed ctlaw_mixed), sllaw_mixed⟩)
    (cclaw_mixed : PySem.W.codeIn K cdlaw_mixed "_law_mixed" = true)
    (kklaw_mixed : PySem.W.keepIn K (.ref flaw_mixed) = true)
    (awlaw_digits : PySem.W.nsIn K mainGlobals "_law_digits" = some (some (.ref flaw_digits)))
    (lllaw_digits : K.lookup flaw_digits = some ⟨oclaw_digits, odlaw_digits, .func (PySem.W.fnOf "_law_digits" "_law_digits" (defArgs s_law_digits) (defBody s_law_digits) (defScope s_law_digits) .none kVlaw_digits dclaw_digits pmlaw_digits anlaw_digits cdlaw_digits ctlaw_digits), sllaw_digits⟩)
    (cclaw_digits : PySem.W.codeIn K cdlaw_digits "_law_digits" = true)
    (kklaw_digits : PySem.W.keepIn K (.ref flaw_digits) = true)
    (awis_whole : PySem.W.nsIn K mainGlobals "is_whole" = some (some (.ref fis_whole)))
    (llis_whole : K.lookup fis_whole = some ⟨ocis_whole, odis_whole, .func (PySem.W.fnOf "is_whole" "is_whole" (defArgs s_is_whole) (defBody s_is_whole) (defScope s_is_whole) .none kVis_whole dcis_whole pmis_whole anis_whole cdis_whole ctis_whole), slis_whole⟩)
    (ccis_whole : PySem.W.codeIn K cdis_whole "is_whole" = true)
    (kkis_whole : PySem.W.keepIn K (.ref fis_whole) = true)
    (awis_number : PySem.W.nsIn K mainGlobals "is_number" = some (some (.ref fis_number)))
    (llis_number : K.lookup fis_number = some ⟨ocis_number, odis_number, .func (PySem.W.fnOf "is_number" "is_number" (defArgs s_is_number) (defBody s_is_number) (defScope s_is_number) .none kVis_number dcis_number pmis_number anis_number cdis_number ctis_number), slis_number⟩)
    (ccis_number : PySem.W.codeIn K cdis_number "is_number" = true)
    (kkis_number : PySem.W.keepIn K (.ref fis_number) = true)
    (awis_row : PySem.W.nsIn K mainGlobals "is_row" = some (some (.ref fis_row)))
    (llis_row : K.lookup fis_row = some ⟨ocis_row, odis_row, .func (PySem.W.fnOf "is_row" "is_row" (defArgs s_is_row) (defBody s_is_row) (defScope s_is_row) .none kVis_row dcis_row pmis_row anis_row cdis_row ctis_row), slis_row⟩)
    (ccis_row : PySem.W.codeIn K cdis_row "is_row" = true)
    (kkis_row : PySem.W.keepIn K (.ref fis_row) = true)
    (awTapedd_initdd : PySem.W.findIn K (.ref CTape) "__init__" = some (some (.ref fTapedd_initdd)))
    (iiTapedd_initdd : PySem.W.isFn K (.ref fTapedd_initdd) = true)
    (llTapedd_initdd : K.lookup fTapedd_initdd = some ⟨ocTapedd_initdd, odTapedd_initdd, .func (PySem.W.fnOf "__init__" "Tape.__init__" (defArgs s_Tapedd_initdd) (defBody s_Tapedd_initdd) (defScope s_Tapedd_initdd) .none kVTapedd_initdd dcTapedd_initdd pmTapedd_initdd anTapedd_initdd cdTapedd_initdd ctTapedd_initdd), slTapedd_initdd⟩)
    (ccTapedd_initdd : PySem.W.codeIn K cdTapedd_initdd "Tape.__init__" = true)
    (kkTapedd_initdd : PySem.W.keepIn K (.ref fTapedd_initdd) = true)
    (awlaw_tape : PySem.W.nsIn K mainGlobals "_law_tape" = some (some (.ref flaw_tape)))
    (lllaw_tape : K.lookup flaw_tape = some ⟨oclaw_tape, odlaw_tape, .func (PySem.W.fnOf "_law_tape" "_law_tape" (defArgs s_law_tape) (defBody s_law_tape) (defScope s_law_tape) .none kVlaw_tape dclaw_tape pmlaw_tape anlaw_tape cdlaw_tape ctlaw_tape), sllaw_tape⟩)
    (cclaw_tape : PySem.W.codeIn K cdlaw_tape "_law_tape" = true)
    (kklaw_tape : PySem.W.keepIn K (.ref flaw_tape) = true)
    (awwidth : PySem.W.nsIn K mainGlobals "width" = some (some (.ref fwidth)))
    (llwidth : K.lookup fwidth = some ⟨ocwidth, odwidth, .func (PySem.W.fnOf "width" "width" (defArgs s_width) (defBody s_width) (defScope s_width) .none kVwidth dcwidth pmwidth anwidth cdwidth ctwidth), slwidth⟩)
    (ccwidth : PySem.W.codeIn K cdwidth "width" = true)
    (kkwidth : PySem.W.keepIn K (.ref fwidth) = true)
    (awTwoMarksddread : PySem.W.findIn K (.ref CTwoMarks) "_read" = some (some (.ref fTwoMarksddread)))
    (iiTwoMarksddread : PySem.W.isFn K (.ref fTwoMarksddread) = true)
    (llTwoMarksddread : K.lookup fTwoMarksddread = some ⟨ocTwoMarksddread, odTwoMarksddread, .func (PySem.W.fnOf "_read" "TwoMarks._read" (defArgs s_TwoMarksddread) (defBody s_TwoMarksddread) (defScope s_TwoMarksddread) .none kVTwoMarksddread dcTwoMarksddread pmTwoMarksddread anTwoMarksddread cdTwoMarksddread ctTwoMarksddread), slTwoMarksddread⟩)
    (ccTwoMarksddread : PySem.W.codeIn K cdTwoMarksddread "TwoMarks._read" = true)
    (kkTwoMarksddread : PySem.W.keepIn K (.ref fTwoMarksddread) = true)
    (awTape_row : PySem.W.findIn K (.ref CTape) "row" = some (some (.ref fTape_row)))
    (iiTape_row : PySem.W.isFn K (.ref fTape_row) = true)
    (llTape_row : K.lookup fTape_row = some ⟨ocTape_row, odTape_row, .func (PySem.W.fnOf "row" "Tape.row" (defArgs s_Tape_row) (defBody s_Tape_row) (defScope s_Tape_row) .none kVTape_row dcTape_row pmTape_row anTape_row cdTape_row ctTape_row), slTape_row⟩)
    (ccTape_row : PySem.W.codeIn K cdTape_row "Tape.row" = true)
    (kkTape_row : PySem.W.keepIn K (.ref fTape_row) = true)
    (awTwoMarksddwrite : PySem.W.findIn K (.ref CTwoMarks) "_write" = some (some (.ref fTwoMarksddwrite)))
    (iiTwoMarksddwrite : PySem.W.isFn K (.ref fTwoMarksddwrite) = true)
    (llTwoMarksddwrite : K.lookup fTwoMarksddwrite = some ⟨ocTwoMarksddwrite, odTwoMarksddwrite, .func (PySem.W.fnOf "_write" "TwoMarks._write" (defArgs s_TwoMarksddwrite) (defBody s_TwoMarksddwrite) (defScope s_TwoMarksddwrite) .none kVTwoMarksddwrite dcTwoMarksddwrite pmTwoMarksddwrite anTwoMarksddwrite cdTwoMarksddwrite ctTwoMarksddwrite), slTwoMarksddwrite⟩)
    (ccTwoMarksddwrite : PySem.W.codeIn K cdTwoMarksddwrite "TwoMarks._write" = true)
    (kkTwoMarksddwrite : PySem.W.keepIn K (.ref fTwoMarksddwrite) = true)
    (awTwoMarksddread_row : PySem.W.findIn K (.ref CTwoMarks) "_read_row" = some (some (.ref fTwoMarksddread_row)))
    (iiTwoMarksddread_row : PySem.W.isFn K (.ref fTwoMarksddread_row) = true)
    (llTwoMarksddread_row : K.lookup fTwoMarksddread_row = some ⟨ocTwoMarksddread_row, odTwoMarksddread_row, .func (PySem.W.fnOf "_read_row" "TwoMarks._read_row" (defArgs s_TwoMarksddread_row) (defBody s_TwoMarksddread_row) (defScope s_TwoMarksddread_row) .none kVTwoMarksddread_row dcTwoMarksddread_row pmTwoMarksddread_row anTwoMarksddread_row cdTwoMarksddread_row ctTwoMarksddread_row), slTwoMarksddread_row⟩)
    (ccTwoMarksddread_row : PySem.W.codeIn K cdTwoMarksddread_row "TwoMarks._read_row" = true)
    (kkTwoMarksddread_row : PySem.W.keepIn K (.ref fTwoMarksddread_row) = true)
    (awTwoMarksddread_rows : PySem.W.findIn K (.ref CTwoMarks) "_read_rows" = some (some (.ref fTwoMarksddread_rows)))
    (iiTwoMarksddread_rows : PySem.W.isFn K (.ref fTwoMarksddread_rows) = true)
    (llTwoMarksddread_rows : K.lookup fTwoMarksddread_rows = some ⟨ocTwoMarksddread_rows, odTwoMarksddread_rows, .func (PySem.W.fnOf "_read_rows" "TwoMarks._read_rows" (defArgs s_TwoMarksddread_rows) (defBody s_TwoMarksddread_rows) (defScope s_TwoMarksddread_rows) .none kVTwoMarksddread_rows dcTwoMarksddread_rows pmTwoMarksddread_rows anTwoMarksddread_rows cdTwoMarksddread_rows ctTwoMarksddread_rows), slTwoMarksddread_rows⟩)
    (ccTwoMarksddread_rows : PySem.W.codeIn K cdTwoMarksddread_rows "TwoMarks._read_rows" = true)
    (kkTwoMarksddread_rows : PySem.W.keepIn K (.ref fTwoMarksddread_rows) = true)
    (awTwoMarksddgo : PySem.W.findIn K (.ref CTwoMarks) "_go" = some (some (.ref fTwoMarksddgo)))
    (iiTwoMarksddgo : PySem.W.isFn K (.ref fTwoMarksddgo) = true)
    (llTwoMarksddgo : K.lookup fTwoMarksddgo = some ⟨ocTwoMarksddgo, odTwoMarksddgo, .func (PySem.W.fnOf "_go" "TwoMarks._go" (defArgs s_TwoMarksddgo) (defBody s_TwoMarksddgo) (defScope s_TwoMarksddgo) .none kVTwoMarksddgo dcTwoMarksddgo pmTwoMarksddgo anTwoMarksddgo cdTwoMarksddgo ctTwoMarksddgo), slTwoMarksddgo⟩)
    (ccTwoMarksddgo : PySem.W.codeIn K cdTwoMarksddgo "TwoMarks._go" = true)
    (kkTwoMarksddgo : PySem.W.keepIn K (.ref fTwoMarksddgo) = true)
    (awTwoMarksddwrite_row : PySem.W.findIn K (.ref CTwoMarks) "_write_row" = some (some (.ref fTwoMarksddwrite_row)))
    (iiTwoMarksddwrite_row : PySem.W.isFn K (.ref fTwoMarksddwrite_row) = true)
    (llTwoMarksddwrite_row : K.lookup fTwoMarksddwrite_row = some ⟨ocTwoMarksddwrite_row, odTwoMarksddwrite_row, .func (PySem.W.fnOf "_write_row" "TwoMarks._write_row" (defArgs s_TwoMarksddwrite_row) (defBody s_TwoMarksddwrite_row) (defScope s_TwoMarksddwrite_row) .none kVTwoMarksddwrite_row dcTwoMarksddwrite_row pmTwoMarksddwrite_row anTwoMarksddwrite_row cdTwoMarksddwrite_row ctTwoMarksddwrite_row), slTwoMarksddwrite_row⟩)
    (ccTwoMarksddwrite_row : PySem.W.codeIn K cdTwoMarksddwrite_row "TwoMarks._write_row" = true)
    (kkTwoMarksddwrite_row : PySem.W.keepIn K (.ref fTwoMarksddwrite_row) = true)
    (awTwoMarksddwrite_rows : PySem.W.findIn K (.ref CTwoMarks) "_write_rows" = some (some (.ref fTwoMarksddwrite_rows)))
    (iiTwoMarksddwrite_rows : PySem.W.isFn K (.ref fTwoMarksddwrite_rows) = true)
    (llTwoMarksddwrite_rows : K.lookup fTwoMarksddwrite_rows = some ⟨ocTwoMarksddwrite_rows, odTwoMarksddwrite_rows, .func (PySem.W.fnOf "_write_rows" "TwoMarks._write_rows" (defArgs s_TwoMarksddwrite_rows) (defBody s_TwoMarksddwrite_rows) (defScope s_TwoMarksddwrite_rows) .none kVTwoMarksddwrite_rows dcTwoMarksddwrite_rows pmTwoMarksddwrite_rows anTwoMarksddwrite_rows cdTwoMarksddwrite_rows ctTwoMarksddwrite_rows), slTwoMarksddwrite_rows⟩)
    (ccTwoMarksddwrite_rows : PySem.W.codeIn K cdTwoMarksddwrite_rows "TwoMarks._write_rows" = true)
    (kkTwoMarksddwrite_rows : PySem.W.keepIn K (.ref fTwoMarksddwrite_rows) = true)
    (awTwoMarksddgo_row : PySem.W.findIn K (.ref CTwoMarks) "_go_row" = some (some (.ref fTwoMarksddgo_row)))
    (iiTwoMarksddgo_row : PySem.W.isFn K (.ref fTwoMarksddgo_row) = true)
    (llTwoMarksddgo_row : K.lookup fTwoMarksddgo_row = some ⟨ocTwoMarksddgo_row, odTwoMarksddgo_row, .func (PySem.W.fnOf "_go_row" "TwoMarks._go_row" (defArgs s_TwoMarksddgo_row) (defBody s_TwoMarksddgo_row) (defScope s_TwoMarksddgo_row) .none kVTwoMarksddgo_row dcTwoMarksddgo_row pmTwoMarksddgo_row anTwoMarksddgo_row cdTwoMarksddgo_row ctTwoMarksddgo_row), slTwoMarksddgo_row⟩)
    (ccTwoMarksddgo_row : PySem.W.codeIn K cdTwoMarksddgo_row "TwoMarks._go_row" = true)
    (kkTwoMarksddgo_row : PySem.W.keepIn K (.ref fTwoMarksddgo_row) = true)
    (awTwoMarksddgo_rows : PySem.W.findIn K (.ref CTwoMarks) "_go_rows" = some (some (.ref fTwoMarksddgo_rows)))
    (iiTwoMarksddgo_rows : PySem.W.isFn K (.ref fTwoMarksddgo_rows) = true)
    (llTwoMarksddgo_rows : K.lookup fTwoMarksddgo_rows = some ⟨ocTwoMarksddgo_rows, odTwoMarksddgo_rows, .func (PySem.W.fnOf "_go_rows" "TwoMarks._go_rows" (defArgs s_TwoMarksddgo_rows) (defBody s_TwoMarksddgo_rows) (defScope s_TwoMarksddgo_rows) .none kVTwoMarksddgo_rows dcTwoMarksddgo_rows pmTwoMarksddgo_rows anTwoMarksddgo_rows cdTwoMarksddgo_rows ctTwoMarksddgo_rows), slTwoMarksddgo_rows⟩)
    (ccTwoMarksddgo_rows : PySem.W.codeIn K cdTwoMarksddgo_rows "TwoMarks._go_rows" = true)
    (kkTwoMarksddgo_rows : PySem.W.keepIn K (.ref fTwoMarksddgo_rows) = true)
    (awTwoMarksdd_initdd : PySem.W.findIn K (.ref CTwoMarks) "__init__" = some (some (.ref fTwoMarksdd_initdd)))
    (iiTwoMarksdd_initdd : PySem.W.isFn K (.ref fTwoMarksdd_initdd) = true)
    (llTwoMarksdd_initdd : K.lookup fTwoMarksdd_initdd = some ⟨ocTwoMarksdd_initdd, odTwoMarksdd_initdd, .func (PySem.W.fnOf "__init__" "TwoMarks.__init__" (defArgs s_TwoMarksdd_initdd) (defBody s_TwoMarksdd_initdd) (defScope s_TwoMarksdd_initdd) .none kVTwoMarksdd_initdd dcTwoMarksdd_initdd pmTwoMarksdd_initdd anTwoMarksdd_initdd cdTwoMarksdd_initdd ctTwoMarksdd_initdd), slTwoMarksdd_initdd⟩)
    (ccTwoMarksdd_initdd : PySem.W.codeIn K cdTwoMarksdd_initdd "TwoMarks.__init__" = true)
    (kkTwoMarksdd_initdd : PySem.W.keepIn K (.ref fTwoMarksdd_initdd) = true)
    (awlaw_refused : PySem.W.nsIn K mainGlobals "_law_refused" = some (some (.ref flaw_refused)))
    (lllaw_refused : K.lookup flaw_refused = some ⟨oclaw_refused, odlaw_refused, .func (PySem.W.fnOf "_law_refused" "_law_refused" (defArgs s_law_refused) (defBody s_law_refused) (defScope s_law_refused) .none kVlaw_refused dclaw_refused pmlaw_refused anlaw_refused cdlaw_refused ctlaw_refused), sllaw_refused⟩)
    (cclaw_refused : PySem.W.codeIn K cdlaw_refused "_law_refused" = true)
    (kklaw_refused : PySem.W.keepIn K (.ref flaw_refused) = true)
    (awlaw_width : PySem.W.nsIn K mainGlobals "_law_width" = some (some (.ref flaw_width)))
    (lllaw_width : K.lookup flaw_width = some ⟨oclaw_width, odlaw_width, .func (PySem.W.fnOf "_law_width" "_law_width" (defArgs s_law_width) (defBody s_law_width) (defScope s_law_width) .none kVlaw_width dclaw_width pmlaw_width anlaw_width cdlaw_width ctlaw_width), sllaw_width⟩)
    (cclaw_width : PySem.W.codeIn K cdlaw_width "_law_width" = true)
    (kklaw_width : PySem.W.keepIn K (.ref flaw_width) = true)
    (awlaw_is_integer : PySem.W.nsIn K mainGlobals "_law_is_integer" = some (some (.ref flaw_is_integer)))
    (lllaw_is_integer : K.lookup flaw_is_integer = some ⟨oclaw_is_integer, odlaw_is_integer, .func (PySem.W.fnOf "_law_is_integer" "_law_is_integer" (defArgs s_law_is_integer) (defBody s_law_is_integer) (defScope s_law_is_integer) .none kVlaw_is_integer dclaw_is_integer pmlaw_is_integer anlaw_is_integer cdlaw_is_integer ctlaw_is_integer), sllaw_is_integer⟩)
    (cclaw_is_integer : PySem.W.codeIn K cdlaw_is_integer "_law_is_integer" = true)
    (kklaw_is_integer : PySem.W.keepIn K (.ref flaw_is_integer) = true)
    (awblock : PySem.W.nsIn K mainGlobals "block" = some (some (.ref fblock)))
    (llblock : K.lookup fblock = some ⟨ocblock, odblock, .func (PySem.W.fnOf "block" "block" (defArgs s_block) (defBody s_block) (defScope s_block) .none kVblock dcblock pmblock anblock cdblock ctblock), slblock⟩)
    (ccblock : PySem.W.codeIn K cdblock "block" = true)
    (kkblock : PySem.W.keepIn K (.ref fblock) = true)
    (aware_numbers : PySem.W.nsIn K mainGlobals "are_numbers" = some (some (.ref fare_numbers)))
    (llare_numbers : K.lookup fare_numbers = some ⟨ocare_numbers, odare_numbers, .func (PySem.W.fnOf "are_numbers" "are_numbers" (defArgs s_are_numbers) (defBody s_are_numbers) (defScope s_are_numbers) .none kVare_numbers dcare_numbers pmare_numbers anare_numbers cdare_numbers ctare_numbers), slare_numbers⟩)
    (ccare_numbers : PySem.W.codeIn K cdare_numbers "are_numbers" = true)
    (kkare_numbers : PySem.W.keepIn K (.ref fare_numbers) = true)
    (awmark_of : PySem.W.nsIn K mainGlobals "mark_of" = some (some (.ref fmark_of)))
    (llmark_of : K.lookup fmark_of = some ⟨ocmark_of, odmark_of, .func (PySem.W.fnOf "mark_of" "mark_of" (defArgs s_mark_of) (defBody s_mark_of) (defScope s_mark_of) .none kVmark_of dcmark_of pmmark_of anmark_of cdmark_of ctmark_of), slmark_of⟩)
    (ccmark_of : PySem.W.codeIn K cdmark_of "mark_of" = true)
    (kkmark_of : PySem.W.keepIn K (.ref fmark_of) = true)
    (awlaw_block : PySem.W.nsIn K mainGlobals "_law_block" = some (some (.ref flaw_block)))
    (lllaw_block : K.lookup flaw_block = some ⟨oclaw_block, odlaw_block, .func (PySem.W.fnOf "_law_block" "_law_block" (defArgs s_law_block) (defBody s_law_block) (defScope s_law_block) .none kVlaw_block dclaw_block pmlaw_block anlaw_block cdlaw_block ctlaw_block), sllaw_block⟩)
    (cclaw_block : PySem.W.codeIn K cdlaw_block "_law_block" = true)
    (kklaw_block : PySem.W.keepIn K (.ref flaw_block) = true)
    (awlaw_power : PySem.W.nsIn K mainGlobals "_law_power" = some (some (.ref flaw_power)))
    (lllaw_power : K.lookup flaw_power = some ⟨oclaw_power, odlaw_power, .func (PySem.W.fnOf "_law_power" "_law_power" (defArgs s_law_power) (defBody s_law_power) (defScope s_law_power) .none kVlaw_power dclaw_power pmlaw_power anlaw_power cdlaw_power ctlaw_power), sllaw_power⟩)
    (cclaw_power : PySem.W.codeIn K cdlaw_power "_law_power" = true)
    (kklaw_power : PySem.W.keepIn K (.ref flaw_power) = true)
    (awlaw_prefixes : PySem.W.nsIn K mainGlobals "_law_prefixes" = some (some (.ref flaw_prefixes)))
    (lllaw_prefixes : K.lookup flaw_prefixes = some ⟨oclaw_prefixes, odlaw_prefixes, .func (PySem.W.fnOf "_law_prefixes" "_law_prefixes" (defArgs s_law_prefixes) (defBody s_law_prefixes) (defScope s_law_prefixes) .none kVlaw_prefixes dclaw_prefixes pmlaw_prefixes anlaw_prefixes cdlaw_prefixes ctlaw_prefixes), sllaw_prefixes⟩)
    (cclaw_prefixes : PySem.W.codeIn K cdlaw_prefixes "_law_prefixes" = true)
    (kklaw_prefixes : PySem.W.keepIn K (.ref flaw_prefixes) = true)
    (awlaw_value : PySem.W.nsIn K mainGlobals "_law_value" = some (some (.ref flaw_value)))
    (lllaw_value : K.lookup flaw_value = some ⟨oclaw_value, odlaw_value, .func (PySem.W.fnOf "_law_value" "_law_value" (defArgs s_law_value) (defBody s_law_value) (defScope s_law_value) .none kVlaw_value dclaw_value pmlaw_value anlaw_value cdlaw_value ctlaw_value), sllaw_value⟩)
    (cclaw_value : PySem.W.codeIn K cdlaw_value "_law_value" = true)
    (kklaw_value : PySem.W.keepIn K (.ref flaw_value) = true)
    (awTape_table : PySem.W.findIn K (.ref CTape) "table" = some (some (.ref fTape_table)))
    (iiTape_table : PySem.W.isFn K (.ref fTape_table) = true)
    (llTape_table : K.lookup fTape_table = some ⟨ocTape_table, odTape_table, .func (PySem.W.fnOf "table" "Tape.table" (defArgs s_Tape_table) (defBody s_Tape_table) (defScope s_Tape_table) .none kVTape_table dcTape_table pmTape_table anTape_table cdTape_table ctTape_table), slTape_table⟩)
    (ccTape_table : PySem.W.codeIn K cdTape_table "Tape.table" = true)
    (kkTape_table : PySem.W.keepIn K (.ref fTape_table) = true)
    (awlaw_read : PySem.W.nsIn K mainGlobals "_law_read" = some (some (.ref flaw_read)))
    (lllaw_read : K.lookup flaw_read = some ⟨oclaw_read, odlaw_read, .func (PySem.W.fnOf "_law_read" "_law_read" (defArgs s_law_read) (defBody s_law_read) (defScope s_law_read) .none kVlaw_read dclaw_read pmlaw_read anlaw_read cdlaw_read ctlaw_read), sllaw_read⟩)
    (cclaw_read : PySem.W.codeIn K cdlaw_read "_law_read" = true)
    (kklaw_read : PySem.W.keepIn K (.ref flaw_read) = true)
    (awlaw_write : PySem.W.nsIn K mainGlobals "_law_write" = some (some (.ref flaw_write)))
    (lllaw_write : K.lookup flaw_write = some ⟨oclaw_write, odlaw_write, .func (PySem.W.fnOf "_law_write" "_law_write" (defArgs s_law_write) (defBody s_law_write) (defScope s_law_write) .none kVlaw_write dclaw_write pmlaw_write anlaw_write cdlaw_write ctlaw_write), sllaw_write⟩)
    (cclaw_write : PySem.W.codeIn K cdlaw_write "_law_write" = true)
    (kklaw_write : PySem.W.keepIn K (.ref flaw_write) = true)
    (awlaw_read_row : PySem.W.nsIn K mainGlobals "_law_read_row" = some (some (.ref flaw_read_row)))
    (lllaw_read_row : K.lookup flaw_read_row = some ⟨oclaw_read_row, odlaw_read_row, .func (PySem.W.fnOf "_law_read_row" "_law_read_row" (defArgs s_law_read_row) (defBody s_law_read_row) (defScope s_law_read_row) .none kVlaw_read_row dclaw_read_row pmlaw_read_row anlaw_read_row cdlaw_read_row ctlaw_read_row), sllaw_read_row⟩)
    (cclaw_read_row : PySem.W.codeIn K cdlaw_read_row "_law_read_row" = true)
    (kklaw_read_row : PySem.W.keepIn K (.ref flaw_read_row) = true)
    (awlaw_go : PySem.W.nsIn K mainGlobals "_law_go" = some (some (.ref flaw_go)))
    (lllaw_go : K.lookup flaw_go = some ⟨oclaw_go, odlaw_go, .func (PySem.W.fnOf "_law_go" "_law_go" (defArgs s_law_go) (defBody s_law_go) (defScope s_law_go) .none kVlaw_go dclaw_go pmlaw_go anlaw_go cdlaw_go ctlaw_go), sllaw_go⟩)
    (cclaw_go : PySem.W.codeIn K cdlaw_go "_law_go" = true)
    (kklaw_go : PySem.W.keepIn K (.ref flaw_go) = true)
    (awlaw_rows : PySem.W.nsIn K mainGlobals "_law_rows" = some (some (.ref flaw_rows)))
    (lllaw_rows : K.lookup flaw_rows = some ⟨oclaw_rows, odlaw_rows, .func (PySem.W.fnOf "_law_rows" "_law_rows" (defArgs s_law_rows) (defBody s_law_rows) (defScope s_law_rows) .none kVlaw_rows dclaw_rows pmlaw_rows anlaw_rows cdlaw_rows ctlaw_rows), sllaw_rows⟩)
    (cclaw_rows : PySem.W.codeIn K cdlaw_rows "_law_rows" = true)
    (kklaw_rows : PySem.W.keepIn K (.ref flaw_rows) = true)
    (awlaw : PySem.W.nsIn K mainGlobals "law" = some (some (.ref flaw)))
    (lllaw : K.lookup flaw = some ⟨oclaw, odlaw, .func (PySem.W.fnOf "law" "law" (defArgs s_law) (defBody s_law) (defScope s_law) .none kVlaw dclaw pmlaw anlaw cdlaw ctlaw), sllaw⟩)
    (cclaw : PySem.W.codeIn K cdlaw "law" = true)
    (kklaw : PySem.W.keepIn K (.ref flaw) = true)
    (knFEWEST_MARKS : PySem.W.nsIn K mainGlobals "FEWEST_MARKS" = some (some (.int 2 tFEWEST_MARKS)))
    (knMOST_MARKS : PySem.W.nsIn K mainGlobals "MOST_MARKS" = some (some (.int 16 tMOST_MARKS)))
    (knMOST_STATES : PySem.W.nsIn K mainGlobals "MOST_STATES" = some (some (.int 4000 tMOST_STATES)))
    (xgBadMachine : PySem.W.nsIn K mainGlobals "BadMachine" = some (some (.ref XBadMachine)))
    (xqBadMachine : PySem.W.excIn K XBadMachine [.type "ValueError", .type "Exception", .type "BaseException", .type "object"] "ValueError.__new__" = true)
    (xkBadMachine : PySem.W.keepIn K (.ref XBadMachine) = true)
    (xbBadMachine : PySem.W.subIn K (.ref XBadMachine) (.type "BaseException") = some true)
    (xtBadMachine : PySem.W.typeIn K (.ref XBadMachine) = some (.type "type"))
    (xgBadMark : PySem.W.nsIn K mainGlobals "BadMark" = some (some (.ref XBadMark)))
    (xqBadMark : PySem.W.excIn K XBadMark [.type "ValueError", .type "Exception", .type "BaseException", .type "object"] "ValueError.__new__" = true)
    (xkBadMark : PySem.W.keepIn K (.ref XBadMark) = true)
    (xbBadMark : PySem.W.subIn K (.ref XBadMark) (.type "BaseException") = some true)
    (xtBadMark : PySem.W.typeIn K (.ref XBadMark) = some (.type "type"))
    (xgStairError : PySem.W.nsIn K mainGlobals "StairError" = some (some (.ref XStairError)))
    (xqStairError : PySem.W.excIn K XStairError [.type "ValueError", .type "Exception", .type "BaseException", .type "object"] "ValueError.__new__" = true)
    (xkStairError : PySem.W.keepIn K (.ref XStairError) = true)
    (xbStairError : PySem.W.subIn K (.ref XStairError) (.type "BaseException") = some true)
    (xtStairError : PySem.W.typeIn K (.ref XStairError) = some (.type "type"))
    (xe1BadMachine : PySem.W.findIn K (.ref XBadMachine) "__getattribute__" = some (some (.builtin "BaseException.__getattribute__")))
    (xe2BadMachine : PySem.W.findIn K (.ref XBadMachine) "__getattr__" = some none)
    (xe3BadMachine : PySem.W.subIn K (.ref XBadMachine) (.type "BaseException") = some true)
    (xe4BadMachine : PySem.W.hasDictIn K XBadMachine = true)
    (xe5BadMachine : PySem.W.findIn K (.ref XBadMachine) "__class__" = some (some (.builtin "object.__class__")))
    (xe6BadMachine : PySem.W.specialIn K (.builtin "object.__class__") "__get__" = some (some (.builtin "getset_descriptor.__get__")))
    (xe7BadMachine : PySem.W.takesIn K (.builtin "object.__class__") = some true)
    (xe8BadMachine : PySem.W.mroIn K XBadMachine (.type "object") = some true)
    (xdStairError : PySem.W.hasDictIn K XStairError = true)
    (xsBadMachineStairError : PySem.W.subIn K (.ref XBadMachine) (.ref XStairError) = some true)
    (xdBadMachine : PySem.W.hasDictIn K XBadMachine = true)
    (xsBadMachineBadMachine : PySem.W.subIn K (.ref XBadMachine) (.ref XBadMachine) = some true)
    (xnBadMachineBadMark : XBadMachine ≠ XBadMark)
    (xdBadMark : PySem.W.hasDictIn K XBadMark = true)
    (xsBadMachineBadMark : PySem.W.subIn K (.ref XBadMachine) (.ref XBadMark) = some false)
    (xsBadMachineValueError : PySem.W.subIn K (.ref XBadMachine) (.type "ValueError") = some true)
    (nnValueError : PySem.W.nsIn K mainGlobals "ValueError" = some none)
    (nnall : PySem.W.nsIn K mainGlobals "all" = some none)
    (nnbool : PySem.W.nsIn K mainGlobals "bool" = some none)
    (nnint : PySem.W.nsIn K mainGlobals "int" = some none)
    (nnisinstance : PySem.W.nsIn K mainGlobals "isinstance" = some none)
    (nnlen : PySem.W.nsIn K mainGlobals "len" = some none)
    (nnlist : PySem.W.nsIn K mainGlobals "list" = some none)
    (nnrange : PySem.W.nsIn K mainGlobals "range" = some none)
    (nnsorted : PySem.W.nsIn K mainGlobals "sorted" = some none)
    (nntuple : PySem.W.nsIn K mainGlobals "tuple" = some none) :
    ∃ fd : FuncData, (∀ (s : Shared) (v : Value), BindsTo s fd ⟨[v], []⟩ [("script", v)]) ∧ ∀ base : Heap, K.In base → base.Ns mainGlobals mg → FnOk P w K mg base (L2.CX P w) 9 fa fd ["script"] (spLaw K) := by
  have e := hfa.symm.trans (PySem.W.mg_of X G awlaw)
  cases e
  let T : Tx K mg := {
      C_Tape := CTape
      cl_Tape := ⟨pgTape, hdTape, poTape, saTape⟩
      mc_Tape := PySem.W.mg_of X G acTape
      na_Tape_marks := naTapemarks
      na_Tape_states := naTapestates
      na_Tape__rows := naTape_rows
      C_TwoMarks := CTwoMarks
      cl_TwoMarks := ⟨pgTwoMarks, hdTwoMarks, poTwoMarks, saTwoMarks⟩
      mc_TwoMarks := PySem.W.mg_of X G acTwoMarks
      na_TwoMarks_upper := naTwoMarksupper
      na_TwoMarks__width := naTwoMarks_width
      na_TwoMarks_lower := naTwoMarkslower
      m_law_cell := PySem.W.mg_of X G awlaw_cell
      a_law_cell := flaw_cell
      d_law_cell := _
      F_law_cell := fun_mk (st := s_law_cell) lllaw_cell cclaw_cell kklaw_cell
      b_law_cell := (fun_mk (st := s_law_cell) lllaw_cell cclaw_cell kklaw_cell).binds (ps := ["script", "k"]) (fun _ _ _ _ _ _ us hl => match us, hl with | [_, _], _ => rfl)
      m_law_mixed := PySem.W.mg_of X G awlaw_mixed
      a_law_mixed := flaw_mixed
      d_law_mixed := _
      F_law_mixed := fun_mk (st := s_law_mixed) lllaw_mixed cclaw_mixed kklaw_mixed
      b_law_mixed := (fun_mk (st := s_law_mixed) lllaw_mixed cclaw_mixed kklaw_mixed).binds (ps := ["cell", "k"]) (fun _ _ _ _ _ _ us hl => match us, hl with | [_, _], _ => rfl)
      m_law_digits := PySem.W.mg_of X G awlaw_digits
      a_law_digits := flaw_digits
      d_law_digits := _
      F_law_digits := fun_mk (st := s_law_digits) lllaw_digits cclaw_digits kklaw_digits
      b_law_digits := (fun_mk (st := s_law_digits) lllaw_digits cclaw_digits kklaw_digits).binds (ps := ["cell", "count", "many"]) (fun _ _ _ _ _ _ us hl => match us, hl with | [_, _, _], _ => rfl)
      m_is_whole := PySem.W.mg_of X G awis_whole
      a_is_whole := fis_whole
      d_is_whole := _
      F_is_whole := fun_mk (st := s_is_whole) llis_whole ccis_whole kkis_whole
      b_is_whole := (fun_mk (st := s_is_whole) llis_whole ccis_whole kkis_whole).binds (ps := ["value"]) (fun _ _ _ _ _ _ us hl => match us, hl with | [_], _ => rfl)
      m_is_number := PySem.W.mg_of X G awis_number
      a_is_number := fis_number
      d_is_number := _
      F_is_number := fun_mk (st := s_is_number) llis_number ccis_number kkis_number
      b_is_number := (fun_mk (st := s_is_number) llis_number ccis_number kkis_number).binds (ps := ["value", "low", "high"]) (fun _ _ _ _ _ _ us hl => match us, hl with | [_, _, _], _ => rfl)
      m_is_row := PySem.W.mg_of X G awis_row
      a_is_row := fis_row
      d_is_row := _
      F_is_row := fun_mk (st := s_is_row) llis_row ccis_row kkis_row
      b_is_row := (fun_mk (st := s_is_row) llis_row ccis_row kkis_row).binds (ps := ["value", "marks", "states"]) (fun _ _ _ _ _ _ us hl => match us, hl with | [_, _, _], _ => rfl)
      mk_Tape := ⟨mkTape, awTapedd_initdd, iiTapedd_initdd, kcTape⟩
      a_Tapedd_initdd := fTapedd_initdd
      d_Tapedd_initdd := _
      F_Tapedd_initdd := fun_mk (st := s_Tapedd_initdd) llTapedd_initdd ccTapedd_initdd kkTapedd_initdd
      b_Tapedd_initdd := (fun_mk (st := s_Tapedd_initdd) llTapedd_initdd ccTapedd_initdd kkTapedd_initdd).binds (ps := ["self", "marks", "states", "rows"]) (fun _ _ _ _ _ _ us hl => match us, hl with | [_, _, _, _], _ => rfl)
      m_law_tape := PySem.W.mg_of X G awlaw_tape
      a_law_tape := flaw_tape
      d_law_tape := _
      F_law_tape := fun_mk (st := s_law_tape) lllaw_tape cclaw_tape kklaw_tape
      b_law_tape := (fun_mk (st := s_law_tape) lllaw_tape cclaw_tape kklaw_tape).binds (ps := ["numbers", "most_marks", "most_states"]) (fun _ _ _ _ _ _ us hl => match us, hl with | [_, _, _], _ => rfl)
      m_width := PySem.W.mg_of X G awwidth
      a_width := fwidth
      d_width := _
      F_width := fun_mk (st := s_width) llwidth ccwidth kkwidth
      b_width := (fun_mk (st := s_width) llwidth ccwidth kkwidth).binds (ps := ["marks"]) (fun _ _ _ _ _ _ us hl => match us, hl with | [_], _ => rfl)
      me_TwoMarksddread := ⟨awTwoMarksddread, iiTwoMarksddread, kkTwoMarksddread⟩
      a_TwoMarksddread := fTwoMarksddread
      d_TwoMarksddread := _
      F_TwoMarksddread := fun_mk (st := s_TwoMarksddread) llTwoMarksddread ccTwoMarksddread kkTwoMarksddread
      b_TwoMarksddread := (fun_mk (st := s_TwoMarksddread) llTwoMarksddread ccTwoMarksddread kkTwoMarksddread).binds (ps := ["self", "state", "size", "value"]) (fun _ _ _ _ _ _ us hl => match us, hl with | [_, _, _, _], _ => rfl)
      me_Tape_row := ⟨awTape_row, iiTape_row, kkTape_row⟩
      a_Tape_row := fTape_row
      d_Tape_row := _
      F_Tape_row := fun_mk (st := s_Tape_row) llTape_row ccTape_row kkTape_row
      b_Tape_row := (fun_mk (st := s_Tape_row) llTape_row ccTape_row kkTape_row).binds (ps := ["self", "state", "mark"]) (fun _ _ _ _ _ _ us hl => match us, hl with | [_, _, _], _ => rfl)
      me_TwoMarksddwrite := ⟨awTwoMarksddwrite, iiTwoMarksddwrite, kkTwoMarksddwrite⟩
      a_TwoMarksddwrite := fTwoMarksddwrite
      d_TwoMarksddwrite := _
      F_TwoMarksddwrite := fun_mk (st := s_TwoMarksddwrite) llTwoMarksddwrite ccTwoMarksddwrite kkTwoMarksddwrite
      b_TwoMarksddwrite := (fun_mk (st := s_TwoMarksddwrite) llTwoMarksddwrite ccTwoMarksddwrite kkTwoMarksddwrite).binds (ps := ["self", "state", "side", "size", "value"]) (fun _ _ _ _ _ _ us hl => match us, hl with | [_, _, _, _, _], _ => rfl)
      me_TwoMarksddread_row := ⟨awTwoMarksddread_row, iiTwoMarksddread_row, kkTwoMarksddread_row⟩
      a_TwoMarksddread_row := fTwoMarksddread_row
      d_TwoMarksddread_row := _
      F_TwoMarksddread_row := fun_mk (st := s_TwoMarksddread_row) llTwoMarksddread_row ccTwoMarksddread_row kkTwoMarksddread_row
      b_TwoMarksddread_row := (fun_mk (st := s_TwoMarksddread_row) llTwoMarksddread_row ccTwoMarksddread_row kkTwoMarksddread_row).binds (ps := ["self", "state", "size", "value", "bit"]) (fun _ _ _ _ _ _ us hl => match us, hl with | [_, _, _, _, _], _ => rfl)
      me_TwoMarksddread_rows := ⟨awTwoMarksddread_rows, iiTwoMarksddread_rows, kkTwoMarksddread_rows⟩
      a_TwoMarksddread_rows := fTwoMarksddread_rows
      d_TwoMarksddread_rows := _
      F_TwoMarksddread_rows := fun_mk (st := s_TwoMarksddread_rows) llTwoMarksddread_rows ccTwoMarksddread_rows kkTwoMarksddread_rows
      b_TwoMarksddread_rows := (fun_mk (st := s_TwoMarksddread_rows) llTwoMarksddread_rows ccTwoMarksddread_rows kkTwoMarksddread_rows).binds (ps := ["self"]) (fun _ _ _ _ _ _ us hl => match us, hl with | [_], _ => rfl)
      me_TwoMarksddgo := ⟨awTwoMarksddgo, iiTwoMarksddgo, kkTwoMarksddgo⟩
      a_TwoMarksddgo := fTwoMarksddgo
      d_TwoMarksddgo := _
      F_TwoMarksddgo := fun_mk (st := s_TwoMarksddgo) llTwoMarksddgo ccTwoMarksddgo kkTwoMarksddgo
      b_TwoMarksddgo := (fun_mk (st := s_TwoMarksddgo) llTwoMarksddgo ccTwoMarksddgo kkTwoMarksddgo).binds (ps := ["self", "state", "side", "places"]) (fun _ _ _ _ _ _ us hl => match us, hl with | [_, _, _, _], _ => rfl)
      me_TwoMarksddwrite_row := ⟨awTwoMarksddwrite_row, iiTwoMarksddwrite_row, kkTwoMarksddwrite_row⟩
      a_TwoMarksddwrite_row := fTwoMarksddwrite_row
      d_TwoMarksddwrite_row := _
      F_TwoMarksddwrite_row := fun_mk (st := s_TwoMarksddwrite_row) llTwoMarksddwrite_row ccTwoMarksddwrite_row kkTwoMarksddwrite_row
      b_TwoMarksddwrite_row := (fun_mk (st := s_TwoMarksddwrite_row) llTwoMarksddwrite_row ccTwoMarksddwrite_row kkTwoMarksddwrite_row).binds (ps := ["self", "state", "side", "size", "value"]) (fun _ _ _ _ _ _ us hl => match us, hl with | [_, _, _, _, _], _ => rfl)
      me_TwoMarksddwrite_rows := ⟨awTwoMarksddwrite_rows, iiTwoMarksddwrite_rows, kkTwoMarksddwrite_rows⟩
      a_TwoMarksddwrite_rows := fTwoMarksddwrite_rows
      d_TwoMarksddwrite_rows := _
      F_TwoMarksddwrite_rows := fun_mk (st := s_TwoMarksddwrite_rows) llTwoMarksddwrite_rows ccTwoMarksddwrite_rows kkTwoMarksddwrite_rows
      b_TwoMarksddwrite_rows := (fun_mk (st := s_TwoMarksddwrite_rows) llTwoMarksddwrite_rows ccTwoMarksddwrite_rows kkTwoMarksddwrite_rows).binds (ps := ["self"]) (fun _ _ _ _ _ _ us hl => match us, hl with | [_], _ => rfl)
      me_TwoMarksddgo_row := ⟨awTwoMarksddgo_row, iiTwoMarksddgo_row, kkTwoMarksddgo_row⟩
      a_TwoMarksddgo_row := fTwoMarksddgo_row
      d_TwoMarksddgo_row := _
      F_TwoMarksddgo_row := fun_mk (st := s_TwoMarksddgo_row) llTwoMarksddgo_row ccTwoMarksddgo_row kkTwoMarksddgo_row
      b_TwoMarksddgo_row := (fun_mk (st := s_TwoMarksddgo_row) llTwoMarksddgo_row ccTwoMarksddgo_row kkTwoMarksddgo_row).binds (ps := ["self", "state", "side", "places", "bit"]) (fun _ _ _ _ _ _ us hl => match us, hl with | [_, _, _, _, _], _ => rfl)
      me_TwoMarksddgo_rows := ⟨awTwoMarksddgo_rows, iiTwoMarksddgo_rows, kkTwoMarksddgo_rows⟩
      a_TwoMarksddgo_rows := fTwoMarksddgo_rows
      d_TwoMarksddgo_rows := _
      F_TwoMarksddgo_rows := fun_mk (st := s_TwoMarksddgo_rows) llTwoMarksddgo_rows ccTwoMarksddgo_rows kkTwoMarksddgo_rows
      b_TwoMarksddgo_rows := (fun_mk (st := s_TwoMarksddgo_rows) llTwoMarksddgo_rows ccTwoMarksddgo_rows kkTwoMarksddgo_rows).binds (ps := ["self"]) (fun _ _ _ _ _ _ us hl => match us, hl with | [_], _ => rfl)
      mk_TwoMarks := ⟨mkTwoMarks, awTwoMarksdd_initdd, iiTwoMarksdd_initdd, kcTwoMarks⟩
      a_TwoMarksdd_initdd := fTwoMarksdd_initdd
      d_TwoMarksdd_initdd := _
      F_TwoMarksdd_initdd := fun_mk (st := s_TwoMarksdd_initdd) llTwoMarksdd_initdd ccTwoMarksdd_initdd kkTwoMarksdd_initdd
      b_TwoMarksdd_initdd := (fun_mk (st := s_TwoMarksdd_initdd) llTwoMarksdd_initdd ccTwoMarksdd_initdd kkTwoMarksdd_initdd).binds (ps := ["self", "machine"]) (fun _ _ _ _ _ _ us hl => match us, hl with | [_, _], _ => rfl)
      m_law_refused := PySem.W.mg_of X G awlaw_refused
      a_law_refused := flaw_refused
      d_law_refused := _
      F_law_refused := fun_mk (st := s_law_refused) lllaw_refused cclaw_refused kklaw_refused
      b_law_refused := (fun_mk (st := s_law_refused) lllaw_refused cclaw_refused kklaw_refused).binds (ps := ["machine"]) (fun _ _ _ _ _ _ us hl => match us, hl with | [_], _ => rfl)
      m_law_width := PySem.W.mg_of X G awlaw_width
      a_law_width := flaw_width
      d_law_width := _
      F_law_width := fun_mk (st := s_law_width) lllaw_width cclaw_width kklaw_width
      b_law_width := (fun_mk (st := s_law_width) lllaw_width cclaw_width kklaw_width).binds (ps := ["marks"]) (fun _ _ _ _ _ _ us hl => match us, hl with | [_], _ => rfl)
      m_law_is_integer := PySem.W.mg_of X G awlaw_is_integer
      a_law_is_integer := flaw_is_integer
      d_law_is_integer := _
      F_law_is_integer := fun_mk (st := s_law_is_integer) lllaw_is_integer cclaw_is_integer kklaw_is_integer
      b_law_is_integer := (fun_mk (st := s_law_is_integer) lllaw_is_integer cclaw_is_integer kklaw_is_integer).binds (ps := ["actual"]) (fun _ _ _ _ _ _ us hl => match us, hl with | [_], _ => rfl)
      m_block := PySem.W.mg_of X G awblock
      a_block := fblock
      d_block := _
      F_block := fun_mk (st := s_block) llblock ccblock kkblock
      b_block := (fun_mk (st := s_block) llblock ccblock kkblock).binds (ps := ["marks", "mark"]) (fun _ _ _ _ _ _ us hl => match us, hl with | [_, _], _ => rfl)
      m_are_numbers := PySem.W.mg_of X G aware_numbers
      a_are_numbers := fare_numbers
      d_are_numbers := _
      F_are_numbers := fun_mk (st := s_are_numbers) llare_numbers ccare_numbers kkare_numbers
      b_are_numbers := (fun_mk (st := s_are_numbers) llare_numbers ccare_numbers kkare_numbers).binds (ps := ["value", "low", "high"]) (fun _ _ _ _ _ _ us hl => match us, hl with | [_, _, _], _ => rfl)
      m_mark_of := PySem.W.mg_of X G awmark_of
      a_mark_of := fmark_of
      d_mark_of := _
      F_mark_of := fun_mk (st := s_mark_of) llmark_of ccmark_of kkmark_of
      b_mark_of := (fun_mk (st := s_mark_of) llmark_of ccmark_of kkmark_of).binds (ps := ["marks", "bits"]) (fun _ _ _ _ _ _ us hl => match us, hl with | [_, _], _ => rfl)
      m_law_block := PySem.W.mg_of X G awlaw_block
      a_law_block := flaw_block
      d_law_block := _
      F_law_block := fun_mk (st := s_law_block) lllaw_block cclaw_block kklaw_block
      b_law_block := (fun_mk (st := s_law_block) lllaw_block cclaw_block kklaw_block).binds (ps := ["marks", "mark"]) (fun _ _ _ _ _ _ us hl => match us, hl with | [_, _], _ => rfl)
      m_law_power := PySem.W.mg_of X G awlaw_power
      a_law_power := flaw_power
      d_law_power := _
      F_law_power := fun_mk (st := s_law_power) lllaw_power cclaw_power kklaw_power
      b_law_power := (fun_mk (st := s_law_power) lllaw_power cclaw_power kklaw_power).binds (ps := ["count"]) (fun _ _ _ _ _ _ us hl => match us, hl with | [_], _ => rfl)
      m_law_prefixes := PySem.W.mg_of X G awlaw_prefixes
      a_law_prefixes := flaw_prefixes
      d_law_prefixes := _
      F_law_prefixes := fun_mk (st := s_law_prefixes) lllaw_prefixes cclaw_prefixes kklaw_prefixes
      b_law_prefixes := (fun_mk (st := s_law_prefixes) lllaw_prefixes cclaw_prefixes kklaw_prefixes).binds (ps := ["count"]) (fun _ _ _ _ _ _ us hl => match us, hl with | [_], _ => rfl)
      m_law_value := PySem.W.mg_of X G awlaw_value
      a_law_value := flaw_value
      d_law_value := _
      F_law_value := fun_mk (st := s_law_value) lllaw_value cclaw_value kklaw_value
      b_law_value := (fun_mk (st := s_law_value) lllaw_value cclaw_value kklaw_value).binds (ps := ["bits"]) (fun _ _ _ _ _ _ us hl => match us, hl with | [_], _ => rfl)
      me_Tape_table := ⟨awTape_table, iiTape_table, kkTape_table⟩
      a_Tape_table := fTape_table
      d_Tape_table := _
      F_Tape_table := fun_mk (st := s_Tape_table) llTape_table ccTape_table kkTape_table
      b_Tape_table := (fun_mk (st := s_Tape_table) llTape_table ccTape_table kkTape_table).binds (ps := ["self"]) (fun _ _ _ _ _ _ us hl => match us, hl with | [_], _ => rfl)
      m_law_read := PySem.W.mg_of X G awlaw_read
      a_law_read := flaw_read
      d_law_read := _
      F_law_read := fun_mk (st := s_law_read) lllaw_read cclaw_read kklaw_read
      b_law_read := (fun_mk (st := s_law_read) lllaw_read cclaw_read kklaw_read).binds (ps := ["machine", "state", "bits"]) (fun _ _ _ _ _ _ us hl => match us, hl with | [_, _, _], _ => rfl)
      m_law_write := PySem.W.mg_of X G awlaw_write
      a_law_write := flaw_write
      d_law_write := _
      F_law_write := fun_mk (st := s_law_write) lllaw_write cclaw_write kklaw_write
      b_law_write := (fun_mk (st := s_law_write) lllaw_write cclaw_write kklaw_write).binds (ps := ["machine", "state", "move", "bits"]) (fun _ _ _ _ _ _ us hl => match us, hl with | [_, _, _, _], _ => rfl)
      m_law_read_row := PySem.W.mg_of X G awlaw_read_row
      a_law_read_row := flaw_read_row
      d_law_read_row := _
      F_law_read_row := fun_mk (st := s_law_read_row) lllaw_read_row cclaw_read_row kklaw_read_row
      b_law_read_row := (fun_mk (st := s_law_read_row) lllaw_read_row cclaw_read_row kklaw_read_row).binds (ps := ["machine", "state", "bits", "bit"]) (fun _ _ _ _ _ _ us hl => match us, hl with | [_, _, _, _], _ => rfl)
      m_law_go := PySem.W.mg_of X G awlaw_go
      a_law_go := flaw_go
      d_law_go := _
      F_law_go := fun_mk (st := s_law_go) lllaw_go cclaw_go kklaw_go
      b_law_go := (fun_mk (st := s_law_go) lllaw_go cclaw_go kklaw_go).binds (ps := ["machine", "state", "move", "places"]) (fun _ _ _ _ _ _ us hl => match us, hl with | [_, _, _, _], _ => rfl)
      m_law_rows := PySem.W.mg_of X G awlaw_rows
      a_law_rows := flaw_rows
      d_law_rows := _
      F_law_rows := fun_mk (st := s_law_rows) lllaw_rows cclaw_rows kklaw_rows
      b_law_rows := (fun_mk (st := s_law_rows) lllaw_rows cclaw_rows kklaw_rows).binds (ps := ["machine"]) (fun _ _ _ _ _ _ us hl => match us, hl with | [_], _ => rfl)
      m_law := PySem.W.mg_of X G awlaw
      a_law := _
      d_law := _
      F_law := fun_mk (st := s_law) lllaw cclaw kklaw
      b_law := (fun_mk (st := s_law) lllaw cclaw kklaw).binds (ps := ["script"]) (fun _ _ _ _ _ _ us hl => match us, hl with | [_], _ => rfl)
      k_FEWEST_MARKS := ⟨_, PySem.W.mg_of X G knFEWEST_MARKS⟩
      k_MOST_MARKS := ⟨_, PySem.W.mg_of X G knMOST_MARKS⟩
      k_MOST_STATES := ⟨_, PySem.W.mg_of X G knMOST_STATES⟩
      X_BadMachine := XBadMachine
      xg_BadMachine := PySem.W.mg_of X G xgBadMachine
      xq_BadMachine := xqBadMachine
      xk_BadMachine := xkBadMachine
      xb_BadMachine := xbBadMachine
      xt_BadMachine := xtBadMachine
      X_BadMark := XBadMark
      xg_BadMark := PySem.W.mg_of X G xgBadMark
      xq_BadMark := xqBadMark
      xk_BadMark := xkBadMark
      xb_BadMark := xbBadMark
      xt_BadMark := xtBadMark
      X_StairError := XStairError
      xg_StairError := PySem.W.mg_of X G xgStairError
      xq_StairError := xqStairError
      xk_StairError := xkStairError
      xb_StairError := xbStairError
      xt_StairError := xtStairError
      xe_BadMachine := ⟨xe1BadMachine, xe2BadMachine, xe3BadMachine, xe4BadMachine, xe5BadMachine, xe6BadMachine, xe7BadMachine, xe8BadMachine⟩
      xm_BadMachine_StairError := PySem.W.exm_ref xbStairError xdStairError xtStairError xsBadMachineStairError
      xi_BadMachine_BadMachine := kit_ref xdBadMachine xtBadMachine xsBadMachineBadMachine (.inl rfl)
      xi_BadMachine_BadMark := kit_ref xdBadMark xtBadMark xsBadMachineBadMark (.inr xnBadMachineBadMark)
      xi_BadMachine_ValueError := kit_typ (by decide) xsBadMachineValueError
      n_ValueError := PySem.W.mg_none_of X G nnValueError
      n_all := PySem.W.mg_none_of X G nnall
      n_bool := PySem.W.mg_none_of X G nnbool
      n_int := PySem.W.mg_none_of X G nnint
      n_isinstance := PySem.W.mg_none_of X G nnisinstance
      n_len := PySem.W.mg_none_of X G nnlen
      n_list := PySem.W.mg_none_of X G nnlist
      n_range := PySem.W.mg_none_of X G nnrange
      n_sorted := PySem.W.mg_none_of X G nnsorted
      n_tuple := PySem.W.mg_none_of X G nntuple }
  exact ⟨T.d_law, fun s v => .of_eq rfl, fun base _ _ => law_of (ok_law T) (fun ns hl => law_true T ns hl)⟩
end My
open PySem PySem.W PyProof.Rows in
set_option maxRecDepth 100000 in
set_option maxHeartbeats 0 in
theorem PySem.Challenge.cw_stepdown_k06_blocks_and_rows_of_bits_holds : PySem.Challenge.rw_stepdown_k06_blocks_and_rows_of_bits.Holds := by
  w_on; o_law; k_head; (case hw => w_witness2)
  k_fill
  refine DL.walk_law (l := PySem.Challenge.rw_stepdown_k06_blocks_and_rows_of_bits) (k := 9) rfl rfl ⟨rfl, by decide, by decide⟩ (fun w h Y => PySem.W.kIn_of Y) ?F
  case F =>
    intro w mg fa h KX G hmg
    refine' My.all_mk KX G hmg ?acTape ?pgTape ?hdTape ?poTape ?saTape ?mkTape ?kcTape ?naTapemarks ?naTapestates ?naTape_rows ?acTwoMarks ?pgTwoMarks ?hdTwoMarks ?poTwoMarks ?saTwoMarks ?mkTwoMarks ?kcTwoMarks ?naTwoMarksupper ?naTwoMarks_width ?naTwoMarkslower ?awlaw_cell ?lllaw_cell ?cclaw_cell ?kklaw_cell ?awlaw_mixed ?lllaw_mixed ?cclaw_mixed ?kklaw_mixed ?awlaw_digits ?lllaw_digits ?cclaw_digits ?kklaw_digits ?awis_whole ?llis_whole ?ccis_whole ?kkis_whole ?awis_number ?llis_number ?ccis_number ?kkis_number ?awis_row ?llis_row ?ccis_row ?kkis_row ?awTapedd_initdd ?iiTapedd_initdd ?llTapedd_initdd ?ccTapedd_initdd ?kkTapedd_initdd ?awlaw_tape ?lllaw_tape ?cclaw_tape ?kklaw_tape ?awwidth ?llwidth ?ccwidth ?kkwidth ?awTwoMarksddread ?iiTwoMarksddread ?llTwoMarksddread ?ccTwoMarksddread ?kkTwoMarksddread ?awTape_row ?iiTape_row ?llTape_row ?ccTape_row ?kkTape_row ?awTwoMarksddwrite ?iiTwoMarksddwrite ?llTwoMarksddwrite ?ccTwoMarksddwrite ?kkTwoMarksddwrite ?awTwoMarksddread_row ?iiTwoMarksddread_row ?llTwoMarksddread_row ?ccTwoMarksddread_row ?kkTwoMarksddread_row ?awTwoMarksddread_rows ?iiTwoMarksddread_rows ?llTwoMarksddread_rows ?ccTwoMarksddread_rows ?kkTwoMarksddread_rows ?awTwoMarksddgo ?iiTwoMarksddgo ?llTwoMarksddgo ?ccTwoMarksddgo ?kkTwoMarksddgo ?awTwoMarksddwrite_row ?iiTwoMarksddwrite_row ?llTwoMarksddwrite_row ?ccTwoMarksddwrite_row ?kkTwoMarksddwrite_row ?awTwoMarksddwrite_rows ?iiTwoMarksddwrite_rows ?llTwoMarksddwrite_rows ?ccTwoMarksddwrite_rows ?kkTwoMarksddwrite_rows ?awTwoMarksddgo_row ?iiTwoMarksddgo_row ?llTwoMarksddgo_row ?ccTwoMarksddgo_row ?kkTwoMarksddgo_row ?awTwoMarksddgo_rows ?iiTwoMarksddgo_rows ?llTwoMarksddgo_rows ?ccTwoMarksddgo_rows ?kkTwoMarksddgo_rows ?awTwoMarksdd_initdd ?iiTwoMarksdd_initdd ?llTwoMarksdd_initdd ?ccTwoMarksdd_initdd ?kkTwoMarksdd_initdd ?awlaw_refused ?lllaw_refused ?cclaw_refused ?kklaw_refused ?awlaw_width ?lllaw_width ?cclaw_width ?kklaw_width ?awlaw_is_integer ?lllaw_is_integer ?cclaw_is_integer ?kklaw_is_integer ?awblock ?llblock ?ccblock ?kkblock ?aware_numbers ?llare_numbers ?ccare_numbers ?kkare_numbers ?awmark_of ?llmark_of ?ccmark_of ?kkmark_of ?awlaw_block ?lllaw_block ?cclaw_block ?kklaw_block ?awlaw_power ?lllaw_power ?cclaw_power ?kklaw_power ?awlaw_prefixes ?lllaw_prefixes ?cclaw_prefixes ?kklaw_prefixes ?awlaw_value ?lllaw_value ?cclaw_value ?kklaw_value ?awTape_table ?iiTape_table ?llTape_table ?ccTape_table ?kkTape_table ?awlaw_read ?lllaw_read ?cclaw_read ?kklaw_read ?awlaw_write ?lllaw_write ?cclaw_write ?kklaw_write ?awlaw_read_row ?lllaw_read_row ?cclaw_read_row ?kklaw_read_row ?awlaw_go ?lllaw_go ?cclaw_go ?kklaw_go ?awlaw_rows ?lllaw_rows ?cclaw_rows ?kklaw_rows ?awlaw ?lllaw ?cclaw ?kklaw ?knFEWEST_MARKS ?knMOST_MARKS ?knMOST_STATES ?xgBadMachine ?xqBadMachine ?xkBadMachine ?xbBadMachine ?xtBadMachine ?xgBadMark ?xqBadMark ?xkBadMark ?xbBadMark ?xtBadMark ?xgStairError ?xqStairError ?xkStairError ?xbStairError ?xtStairError ?xe1BadMachine ?xe2BadMachine ?xe3BadMachine ?xe4BadMachine ?xe5BadMachine ?xe6BadMachine ?xe7BadMachine ?xe8BadMachine ?xdStairError ?xsBadMachineStairError ?xdBadMachine ?xsBadMachineBadMachine ?xnBadMachineBadMark ?xdBadMark ?xsBadMachineBadMark ?xsBadMachineValueError ?nnValueError ?nnall ?nnbool ?nnint ?nnisinstance ?nnlen ?nnlist ?nnrange ?nnsorted ?nntuple
    (case acTape => k_is)
    (case pgTape => k_is)
    (case hdTape => k_is)
    (case poTape => k_is)
    (case saTape => k_is)
    (case mkTape => k_is)
    (case kcTape => k_is)
    (case naTapemarks => k_is)
    (case naTapestates => k_is)
    (case naTape_rows => k_is)
    (case acTwoMarks => k_is)
    (case pgTwoMarks => k_is)
    (case hdTwoMarks => k_is)
    (case poTwoMarks => k_is)
    (case saTwoMarks => k_is)
    (case mkTwoMarks => k_is)
    (case kcTwoMarks => k_is)
    (case naTwoMarksupper => k_is)
    (case naTwoMarks_width => k_is)
    (case naTwoMarkslower => k_is)
    (case awlaw_cell => k_is)
    (case lllaw_cell => k_is)
    (case cclaw_cell => k_is)
    (case kklaw_cell => k_is)
    (case awlaw_mixed => k_is)
    (case lllaw_mixed => k_is)
    (case cclaw_mixed => k_is)
    (case kklaw_mixed => k_is)
    (case awlaw_digits => k_is)
    (case lllaw_digits => k_is)
    (case cclaw_digits => k_is)
    (case kklaw_digits => k_is)
    (case awis_whole => k_is)
    (case llis_whole => k_is)
    (case ccis_whole => k_is)
    (case kkis_whole => k_is)
    (case awis_number => k_is)
    (case llis_number => k_is)
    (case ccis_number => k_is)
    (case kkis_number => k_is)
    (case awis_row => k_is)
    (case llis_row => k_is)
    (case ccis_row => k_is)
    (case kkis_row => k_is)
    (case awTapedd_initdd => k_is)
    (case iiTapedd_initdd => k_is)
    (case llTapedd_initdd => k_is)
    (case ccTapedd_initdd => k_is)
    (case kkTapedd_initdd => k_is)
    (case awlaw_tape => k_is)
    (case lllaw_tape => k_is)
    (case cclaw_tape => k_is)
    (case kklaw_tape => k_is)
    (case awwidth => k_is)
    (case llwidth => k_is)
    (case ccwidth => k_is)
    (case kkwidth => k_is)
    (case awTwoMarksddread => k_is)
    (case iiTwoMarksddread => k_is)
    (case llTwoMarksddread => k_is)
    (case ccTwoMarksddread => k_is)
    (case kkTwoMarksddread => k_is)
    (case awTape_row => k_is)
    (case iiTape_row => k_is)
    (case llTape_row => k_is)
    (case ccTape_row => k_is)
    (case kkTape_row => k_is)
    (case awTwoMarksddwrite => k_is)
    (case iiTwoMarksddwrite => k_is)
    (case llTwoMarksddwrite => k_is)
    (case ccTwoMarksddwrite => k_is)
    (case kkTwoMarksddwrite => k_is)
    (case awTwoMarksddread_row => k_is)
    (case iiTwoMarksddread_row => k_is)
    (case llTwoMarksddread_row => k_is)
    (case ccTwoMarksddread_row => k_is)
    (case kkTwoMarksddread_row => k_is)
    (case awTwoMarksddread_rows => k_is)
    (case iiTwoMarksddread_rows => k_is)
    (case llTwoMarksddread_rows => k_is)
    (case ccTwoMarksddread_rows => k_is)
    (case kkTwoMarksddread_rows => k_is)
    (case awTwoMarksddgo => k_is)
    (case iiTwoMarksddgo => k_is)
    (case llTwoMarksddgo => k_is)
    (case ccTwoMarksddgo => k_is)
    (case kkTwoMarksddgo => k_is)
    (case awTwoMarksddwrite_row => k_is)
    (case iiTwoMarksddwrite_row => k_is)
    (case llTwoMarksddwrite_row => k_is)
    (case ccTwoMarksddwrite_row => k_is)
    (case kkTwoMarksddwrite_row => k_is)
    (case awTwoMarksddwrite_rows => k_is)
    (case iiTwoMarksddwrite_rows => k_is)
    (case llTwoMarksddwrite_rows => k_is)
    (case ccTwoMarksddwrite_rows => k_is)
    (case kkTwoMarksddwrite_rows => k_is)
    (case awTwoMarksddgo_row => k_is)
    (case iiTwoMarksddgo_row => k_is)
    (case llTwoMarksddgo_row => k_is)
    (case ccTwoMarksddgo_row => k_is)
    (case kkTwoMarksddgo_row => k_is)
    (case awTwoMarksddgo_rows => k_is)
    (case iiTwoMarksddgo_rows => k_is)
    (case llTwoMarksddgo_rows => k_is)
    (case ccTwoMarksddgo_rows => k_is)
    (case kkTwoMarksddgo_rows => k_is)
    (case awTwoMarksdd_initdd => k_is)
    (case iiTwoMarksdd_initdd => k_is)
    (case llTwoMarksdd_initdd => k_is)
    (case ccTwoMarksdd_initdd => k_is)
    (case kkTwoMarksdd_initdd => k_is)
    (case awlaw_refused => k_is)
    (case lllaw_refused => k_is)
    (case cclaw_refused => k_is)
    (case kklaw_refused => k_is)
    (case awlaw_width => k_is)
    (case lllaw_width => k_is)
    (case cclaw_width => k_is)
    (case kklaw_width => k_is)
    (case awlaw_is_integer => k_is)
    (case lllaw_is_integer => k_is)
    (case cclaw_is_integer => k_is)
    (case kklaw_is_integer => k_is)
    (case awblock => k_is)
    (case llblock => k_is)
    (case ccblock => k_is)
    (case kkblock => k_is)
    (case aware_numbers => k_is)
    (case llare_numbers => k_is)
    (case ccare_numbers => k_is)
    (case kkare_numbers => k_is)
    (case awmark_of => k_is)
    (case llmark_of => k_is)
    (case ccmark_of => k_is)
    (case kkmark_of => k_is)
    (case awlaw_block => k_is)
    (case lllaw_block => k_is)
    (case cclaw_block => k_is)
    (case kklaw_block => k_is)
    (case awlaw_power => k_is)
    (case lllaw_power => k_is)
    (case cclaw_power => k_is)
    (case kklaw_power => k_is)
    (case awlaw_prefixes => k_is)
    (case lllaw_prefixes => k_is)
    (case cclaw_prefixes => k_is)
    (case kklaw_prefixes => k_is)
    (case awlaw_value => k_is)
    (case lllaw_value => k_is)
    (case cclaw_value => k_is)
    (case kklaw_value => k_is)
    (case awTape_table => k_is)
    (case iiTape_table => k_is)
    (case llTape_table => k_is)
    (case ccTape_table => k_is)
    (case kkTape_table => k_is)
    (case awlaw_read => k_is)
    (case lllaw_read => k_is)
    (case cclaw_read => k_is)
    (case kklaw_read => k_is)
    (case awlaw_write => k_is)
    (case lllaw_write => k_is)
    (case cclaw_write => k_is)
    (case kklaw_write => k_is)
    (case awlaw_read_row => k_is)
    (case lllaw_read_row => k_is)
    (case cclaw_read_row => k_is)
    (case kklaw_read_row => k_is)
    (case awlaw_go => k_is)
    (case lllaw_go => k_is)
    (case cclaw_go => k_is)
    (case kklaw_go => k_is)
    (case awlaw_rows => k_is)
    (case lllaw_rows => k_is)
    (case cclaw_rows => k_is)
    (case kklaw_rows => k_is)
    (case awlaw => k_is)
    (case lllaw => k_is)
    (case cclaw => k_is)
    (case kklaw => k_is)
    (case knFEWEST_MARKS => k_is)
    (case knMOST_MARKS => k_is)
    (case knMOST_STATES => k_is)
    (case xgBadMachine => k_is)
    (case xqBadMachine => first | k_is | k_exc)
    (case xkBadMachine => k_is)
    (case xbBadMachine => k_is)
    (case xtBadMachine => k_is)
    (case xgBadMark => k_is)
    (case xqBadMark => first | k_is | k_exc)
    (case xkBadMark => k_is)
    (case xbBadMark => k_is)
    (case xtBadMark => k_is)
    (case xgStairError => k_is)
    (case xqStairError => first | k_is | k_exc)
    (case xkStairError => k_is)
    (case xbStairError => k_is)
    (case xtStairError => k_is)
    (case xe1BadMachine => k_is)
    (case xe2BadMachine => k_is)
    (case xe3BadMachine => k_is)
    (case xe4BadMachine => k_is)
    (case xe5BadMachine => k_is)
    (case xe6BadMachine => k_is)
    (case xe7BadMachine => k_is)
    (case xe8BadMachine => k_is)
    (case xdStairError => k_is)
    (case xsBadMachineStairError => k_is)
    (case xdBadMachine => k_is)
    (case xsBadMachineBadMachine => k_is)
    (case xnBadMachineBadMark => decide)
    (case xdBadMark => k_is)
    (case xsBadMachineBadMark => k_is)
    (case xsBadMachineValueError => k_is)
    (case nnValueError => k_is)
    (case nnall => k_is)
    (case nnbool => k_is)
    (case nnint => k_is)
    (case nnisinstance => k_is)
    (case nnlen => k_is)
    (case nnlist => k_is)
    (case nnrange => k_is)
    (case nnsorted => k_is)
    (case nntuple => k_is)
