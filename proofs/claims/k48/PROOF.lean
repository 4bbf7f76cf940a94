import PyProof.Rows.All
import Wide.All
import OpenK.AllK
import Wide.FinOn
import HandS.ForMost
import HandS.ForExc
import HandS.TupAny
import HandS.IsInst
import HandS.TupMul
import HandS.Style
import KE.DataMinMax
import HandS.ExcIs
import HandS.Deep
import HandS.Rev
import HandS.WideBits
import HandS.Iter
import HandS.Flow
import KE.GoesMore
import HandS.Gcd
import HandS.StrMore
import PySem.Challenge.RW_stepdown_k48_whole_round_from_tape_to_ta
set_option Elab.async false
set_option linter.all false
set_option maxRecDepth 100000
set_option maxHeartbeats 8000000
/-! DL: readings over plain data. A value is told as data D (tuples by their items), the heap as DH (lists, dicts, instances alone); a piece of syntax as a transformer over them. -/
namespace DL
open PySem PySem.Spec PyProof.Rows L2
inductive D where
  | non | bl (b : Bool) | int (i : Int) | str (x : Str) | tup (xs : List D) | sl (xs : List D) | ref (a : Addr)
inductive DO where
  | lst (xs : List D)
  | dK (kvs : List (Key × D))
  | dT (kvs : List (List Key × D))
  | ins (C : Addr) (fs : List (Str × D))
abbrev DH := Addr → Option DO
def dup (h : DH) (a : Addr) (o : DO) : DH := fun b => if b = a then some o else h b
theorem dup_same {h : DH} {a : Addr} {o : DO} : dup h a o a = some o := by unfold dup; rw [if_pos rfl]
theorem dup_ne {h : DH} {a b : Addr} {o : DO} (e : b ≠ a) : dup h a o b = h b := by unfold dup; rw [if_neg e]
theorem dup_dup {h : DH} {a : Addr} {o u : DO} : dup (dup h a o) a u = dup h a u := by
  funext b; unfold dup; split <;> rfl
theorem ne_fresh {h : DH} {a b : Addr} {o : DO} (e : h a = some o) (f : h b = none) : a ≠ b := by
  intro z; subst z; rw [e] at f; cases f
theorem dup_old {h : DH} {a b : Addr} {o u : DO} (e : h b = some u) (f : h a = none) : dup h a o b = some u := by
  rw [dup_ne (ne_fresh e f)]; exact e
/-- less is told -/
def Sub (h h' : DH) : Prop := ∀ a o, h a = some o → h' a = some o
theorem Sub.refl (h : DH) : Sub h h := fun _ _ e => e
theorem Sub.trans {h h1 h2 : DH} (a : Sub h h1) (b : Sub h1 h2) : Sub h h2 := fun c o e => b c o (a c o e)
theorem Sub.new {h : DH} {p : Addr} {o : DO} (f : h p = none) : Sub h (dup h p o) := fun a u e => dup_old e f
theorem Sub.fresh {h h' : DH} (s : Sub h h') {p : Addr} (f : h' p = none) : h p = none := by
  cases e : h p with
  | none => rfl
  | some o => rw [s p o e] at f; cases f
/-- a list that nobody writes: the script, a list of the module -/
def StL (K : PySem.W.Frag) (H : Hp) (a : Addr) (xs : List V) : Prop :=
  (∃ o, H a = some (.frz o (.lst xs))) ∨
    ∃ (o : Obj) (its : Array Value) (n : Nat), K.lookup a = some o ∧ o.cls = .type "list" ∧ o.dict = none ∧ o.data = .seq its n ∧ its.size ≤ sizeLine ∧ Vals xs its.toList
theorem StL.seq {K : PySem.W.Frag} {H : Hp} {a : Addr} {xs : List V} (h : StL K H a xs) : SqL K H a xs := by
  rcases h with h | h
  · exact .inl (.inr h)
  · exact .inr h
/-- what lasts -/
structure Pe (H H' : Hp) : Prop where
  tup : ∀ a xs, H a = some (.tup xs) → H' a = some (.tup xs)
  frl : ∀ a o xs, H a = some (.frz o (.lst xs)) → H' a = some (.frz o (.lst xs))
  frt : ∀ a o xs, H a = some (.frz o (.tup xs)) → H' a = some (.frz o (.tup xs))
theorem Pe.refl (H : Hp) : Pe H H := ⟨fun _ _ e => e, fun _ _ _ e => e, fun _ _ _ e => e⟩
theorem Pe.trans {H H1 H2 : Hp} (a : Pe H H1) (b : Pe H1 H2) : Pe H H2 :=
  ⟨fun x xs e => b.tup x xs (a.tup x xs e), fun x o xs e => b.frl x o xs (a.frl x o xs e), fun x o xs e => b.frt x o xs (a.frt x o xs e)⟩
theorem Pe.new {H : Hp} {p : Addr} {o : HO} (f : H p = none) : Pe H (upd H p o) :=
  ⟨fun a _ e => by rw [upd_ne (ne_of_none e f)]; exact e, fun a _ _ e => by rw [upd_ne (ne_of_none e f)]; exact e, fun a _ _ e => by rw [upd_ne (ne_of_none e f)]; exact e⟩
/-- what may be written is none of the lasting -/
def Wr : Option HO → Prop
  | some (.lst _) => True
  | some (.dK _) => True
  | some (.dT _) => True
  | some (.ins _ _ _) => True
  | _ => False
theorem Pe.wr {H : Hp} {p : Addr} {o : HO} (w : Wr (H p)) : Pe H (upd H p o) := by
  have ne : ∀ a u, H a = some u → ¬ Wr (some u) → a ≠ p := fun a u e n z => by subst z; rw [e] at w; exact n w
  exact ⟨fun a _ e => by rw [upd_ne (ne _ _ e fun z => z)]; exact e, fun a _ _ e => by rw [upd_ne (ne _ _ e fun z => z)]; exact e, fun a _ _ e => by rw [upd_ne (ne _ _ e fun z => z)]; exact e⟩
section
variable {K : PySem.W.Frag} {H H' : Hp}
theorem Pe.sqT (p : Pe H H') {a : Addr} {xs : List V} (h : SqT K H a xs) : SqT K H' a xs := by
  rcases h with (h | ⟨o, h⟩) | h
  · exact .inl (.inl (p.tup _ _ h))
  · exact .inl (.inr ⟨o, p.frt _ _ _ h⟩)
  · exact .inr h
theorem Pe.stL (p : Pe H H') {a : Addr} {xs : List V} (h : StL K H a xs) : StL K H' a xs := by
  rcases h with ⟨o, h⟩ | h
  · exact .inl ⟨o, p.frl _ _ _ h⟩
  · exact .inr h
end
mutual
inductive RD (K : PySem.W.Frag) (H : Hp) : D → V → Prop
  | non : RD K H .non .non
  | bl (b : Bool) : RD K H (.bl b) (.bl b)
  | int (i : Int) : RD K H (.int i) (.int i)
  | str (x : Str) : RD K H (.str x) (.str x)
  | tup {a : Addr} {ds : List D} {vs : List V} (t : H a = some (.tup vs)) (r : RDs K H ds vs) : RD K H (.tup ds) (.ref a)
  | sl {a : Addr} {ds : List D} {vs : List V} (t : StL K H a vs) (r : RDs K H ds vs) : RD K H (.sl ds) (.ref a)
  | ref (a : Addr) : RD K H (.ref a) (.ref a)
inductive RDs (K : PySem.W.Frag) (H : Hp) : List D → List V → Prop
  | nil : RDs K H [] []
  | cons {d : D} {v : V} {ds : List D} {vs : List V} (r : RD K H d v) (t : RDs K H ds vs) : RDs K H (d :: ds) (v :: vs)
end
section
variable {K : PySem.W.Frag} {H H' : Hp}
mutual
theorem RD.mono (p : Pe H H') : ∀ {d : D} {v : V}, RD K H d v → RD K H' d v
  | _, _, .non => .non
  | _, _, .bl b => .bl b
  | _, _, .int i => .int i
  | _, _, .str x => .str x
  | _, _, .tup t r => .tup (p.tup _ _ t) (RDs.mono p r)
  | _, _, .sl t r => .sl (p.stL t) (RDs.mono p r)
  | _, _, .ref a => .ref a
theorem RDs.mono (p : Pe H H') : ∀ {ds : List D} {vs : List V}, RDs K H ds vs → RDs K H' ds vs
  | _, _, .nil => .nil
  | _, _, .cons r t => .cons (RD.mono p r) (RDs.mono p t)
end
theorem RDs.length : ∀ {ds : List D} {vs : List V}, RDs K H ds vs → ds.length = vs.length
  | _, _, .nil => rfl
  | _, _, .cons _ t => by rw [List.length_cons, List.length_cons, RDs.length t]
theorem RDs.append : ∀ {ds es : List D} {vs ws : List V}, RDs K H ds vs → RDs K H es ws → RDs K H (ds ++ es) (vs ++ ws)
  | _, _, _, _, .nil, s => s
  | _, _, _, _, .cons r t, s => .cons r (RDs.append t s)
theorem RDs.get : ∀ {ds : List D} {vs : List V} {i : Nat} {d : D}, RDs K H ds vs → ds[i]? = some d → ∃ v, vs[i]? = some v ∧ RD K H d v
  | _, _, _, _, .nil, e => by simp at e
  | _, _, 0, _, .cons r _, e => by simp at e; subst e; exact ⟨_, rfl, r⟩
  | _, _, i + 1, d, .cons _ t, e => by
    obtain ⟨v, h1, h2⟩ := RDs.get (i := i) (d := d) t (by simpa using e)
    exact ⟨v, by simpa using h1, h2⟩
theorem RDs.getV : ∀ {ds : List D} {vs : List V} {i : Nat} {v : V}, RDs K H ds vs → vs[i]? = some v → ∃ d, ds[i]? = some d ∧ RD K H d v
  | _, _, _, _, .nil, e => by simp at e
  | _, _, 0, _, .cons r _, e => by simp at e; subst e; exact ⟨_, rfl, r⟩
  | _, _, i + 1, v, .cons _ t, e => by
    obtain ⟨d, h1, h2⟩ := RDs.getV (i := i) (v := v) t (by simpa using e)
    exact ⟨d, by simpa using h1, h2⟩
theorem RDs.set {d : D} {v : V} (r : RD K H d v) : ∀ {ds : List D} {vs : List V} (i : Nat), RDs K H ds vs → RDs K H (ds.set i d) (vs.set i v)
  | _, _, _, .nil => .nil
  | _, _, 0, .cons _ t => .cons r t
  | _, _, i + 1, .cons q t => .cons q (RDs.set r i t)
theorem RDs.take : ∀ {ds : List D} {vs : List V} (n : Nat), RDs K H ds vs → RDs K H (ds.take n) (vs.take n)
  | _, _, 0, _ => .nil
  | _, _, _ + 1, .nil => .nil
  | _, _, n + 1, .cons r t => .cons r (RDs.take n t)
theorem RDs.drop : ∀ {ds : List D} {vs : List V} (n : Nat), RDs K H ds vs → RDs K H (ds.drop n) (vs.drop n)
  | _, _, 0, r => r
  | _, _, _ + 1, .nil => .nil
  | _, _, n + 1, .cons _ t => RDs.drop n t
theorem RDs.dropLast : ∀ {ds : List D} {vs : List V}, RDs K H ds vs → RDs K H ds.dropLast vs.dropLast
  | _, _, .nil => .nil
  | _, _, .cons _ .nil => .nil
  | _, _, .cons r (.cons q t) => .cons r (RDs.dropLast (.cons q t))
theorem RDs.reverse : ∀ {ds : List D} {vs : List V}, RDs K H ds vs → RDs K H ds.reverse vs.reverse
  | _, _, .nil => .nil
  | _, _, .cons r t => by
    rw [List.reverse_cons, List.reverse_cons]
    exact (RDs.reverse t).append (.cons r .nil)
theorem RDs.ints_inv : ∀ {ns : List Int} {vs : List V}, RDs K H (ns.map D.int) vs → vs = ns.map V.int
  | [], _, .nil => rfl
  | n :: ns, _, .cons r t => by cases r; rw [RDs.ints_inv t, List.map_cons]
theorem RDs.ints : ∀ (ns : List Int), RDs K H (ns.map D.int) (ns.map V.int)
  | [] => .nil
  | n :: ns => .cons (.int n) (RDs.ints ns)
theorem RDs.bls_inv : ∀ {bs : List Bool} {vs : List V}, RDs K H (bs.map D.bl) vs → vs = bs.map V.bl
  | [], _, .nil => rfl
  | n :: ns, _, .cons r t => by cases r; rw [RDs.bls_inv t, List.map_cons]
theorem RDs.strs_inv : ∀ {bs : List Str} {vs : List V}, RDs K H (bs.map D.str) vs → vs = bs.map V.str
  | [], _, .nil => rfl
  | n :: ns, _, .cons r t => by cases r; rw [RDs.strs_inv t, List.map_cons]
def RO (K : PySem.W.Frag) (H : Hp) (a : Addr) : DO → Prop
  | .lst ds => ∃ vs, H a = some (.lst vs) ∧ RDs K H ds vs
  | .dK kvs => ∃ vs : List (Key × V), H a = some (.dK vs) ∧ vs.map (·.1) = kvs.map (·.1) ∧ RDs K H (kvs.map (·.2)) (vs.map (·.2))
  | .dT kvs => ∃ vs : List (List Key × V), H a = some (.dT vs) ∧ vs.map (·.1) = kvs.map (·.1) ∧ RDs K H (kvs.map (·.2)) (vs.map (·.2))
  | .ins C fs => ∃ (dx : Addr) (vs : List (Str × V)), H a = some (.ins C dx vs) ∧ vs.map (·.1) = fs.map (·.1) ∧ RDs K H (fs.map (·.2)) (vs.map (·.2))
theorem RO.some {a : Addr} {o : DO} (r : RO K H a o) : ∃ u, H a = Option.some u ∧ Wr (Option.some u) := by
  cases o with
  | lst ds => obtain ⟨vs, e, _⟩ := r; exact ⟨_, e, trivial⟩
  | dK kvs => obtain ⟨vs, e, _⟩ := r; exact ⟨_, e, trivial⟩
  | dT kvs => obtain ⟨vs, e, _⟩ := r; exact ⟨_, e, trivial⟩
  | ins C fs => obtain ⟨dx, vs, e, _⟩ := r; exact ⟨_, e, trivial⟩
theorem RO.mono (p : Pe H H') {a : Addr} {o : DO} (e : H' a = H a) (r : RO K H a o) : RO K H' a o := by
  cases o with
  | lst ds => obtain ⟨vs, q, r⟩ := r; exact ⟨vs, e.trans q, r.mono p⟩
  | dK kvs => obtain ⟨vs, q, n, r⟩ := r; exact ⟨vs, e.trans q, n, r.mono p⟩
  | dT kvs => obtain ⟨vs, q, n, r⟩ := r; exact ⟨vs, e.trans q, n, r.mono p⟩
  | ins C fs => obtain ⟨dx, vs, q, n, r⟩ := r; exact ⟨dx, vs, e.trans q, n, r.mono p⟩
def RW (K : PySem.W.Frag) (h : DH) (H : Hp) : Prop := ∀ a o, h a = Option.some o → RO K H a o
theorem RW.fresh {h : DH} (r : RW K h H) {p : Addr} (f : H p = none) : h p = none := by
  cases e : h p with
  | none => rfl
  | some o =>
    obtain ⟨u, q, _⟩ := (r p o e).some
    rw [f] at q; cases q
theorem RW.sub {h h' : DH} (r : RW K h' H) (s : Sub h h') : RW K h H := fun a o e => r a o (s a o e)
/-- an object beside what is told -/
theorem RW.beside {h : DH} (r : RW K h H) {p : Addr} {u : HO} (f : H p = none) : RW K h (upd H p u) := fun a o e => by
  obtain ⟨u', q, _⟩ := (r a o e).some
  exact (r a o e).mono (Pe.new f) (upd_ne (ne_of_none q f))
theorem RW.new {h : DH} (r : RW K h H) {p : Addr} {u : HO} {o : DO} (f : H p = none) (q : RO K (upd H p u) p o) : RW K (dup h p o) (upd H p u) := fun a o' e => by
  by_cases z : a = p
  · subst z; rw [dup_same] at e; cases e; exact q
  · rw [dup_ne z] at e; exact r.beside f a o' e
theorem RW.set {h : DH} (r : RW K h H) {p : Addr} {u : HO} {o : DO} (w : Wr (H p)) (q : RO K (upd H p u) p o) : RW K (dup h p o) (upd H p u) := fun a o' e => by
  by_cases z : a = p
  · subst z; rw [dup_same] at e; cases e; exact q
  · rw [dup_ne z] at e
    exact (r a o' e).mono (Pe.wr w) (upd_ne z)
end
/-! ### slots -/
abbrev Ev := List (Option D)
def RS (K : PySem.W.Frag) (H : Hp) (env : Ev) (σ : L2.St) : Prop := Paired (fun (d : Option D) (v : Option V) => ∀ x, d = some x → ∃ y, v = some y ∧ RD K H x y) env σ
section
variable {K : PySem.W.Frag} {H H' : Hp} {env : Ev} {σ : L2.St}
theorem RS.mono (p : Pe H H') (r : RS K H env σ) : RS K H' env σ := Paired.mapP r fun a b z x e => by
  obtain ⟨y, e', q⟩ := z x e
  exact ⟨y, e', q.mono p⟩
theorem paired_get {α β : Type} {R : α → β → Prop} : ∀ {l : List α} {m : List β} {i : Nat} {a : α}, Paired R l m → l[i]? = some a → ∃ b, m[i]? = some b ∧ R a b
  | _, _, _, _, .nil, e => by simp at e
  | _, _, 0, _, .cons r _, e => by simp at e; subst e; exact ⟨_, rfl, r⟩
  | _, _, i + 1, a, .cons _ t, e => by
    obtain ⟨v, h1, h2⟩ := paired_get (i := i) (a := a) t (by simpa using e)
    exact ⟨v, by simpa using h1, h2⟩
theorem paired_set {α β : Type} {R : α → β → Prop} {a : α} {b : β} (q : R a b) : ∀ {l : List α} {m : List β} (i : Nat), Paired R l m → Paired R (l.set i a) (m.set i b)
  | _, _, _, .nil => .nil
  | _, _, 0, .cons _ t => .cons q t
  | _, _, i + 1, .cons r t => .cons r (paired_set q i t)
theorem paired_len {α β : Type} {R : α → β → Prop} : ∀ {l : List α} {m : List β}, Paired R l m → l.length = m.length
  | _, _, .nil => rfl
  | _, _, .cons _ t => by rw [List.length_cons, List.length_cons, paired_len t]
theorem RS.get (r : RS K H env σ) {i : Nat} {d : D} (e : env[i]? = some (some d)) : ∃ v, σ[i]? = some (some v) ∧ RD K H d v := by
  obtain ⟨b, e1, q⟩ := paired_get r e
  obtain ⟨v, z, q'⟩ := q d rfl
  subst z
  exact ⟨v, e1, q'⟩
theorem RS.set (r : RS K H env σ) (i : Nat) {d : D} {v : V} (q : RD K H d v) : RS K H (env.set i (some d)) (σ.set i (some v)) :=
  paired_set (R := fun (d : Option D) (v : Option V) => ∀ x, d = some x → ∃ y, v = some y ∧ RD K H x y) (fun x e => by cases e; exact ⟨v, rfl, q⟩) i r
theorem RS.clear (r : RS K H env σ) (i : Nat) : RS K H (env.set i none) (σ.set i none) :=
  paired_set (R := fun (d : Option D) (v : Option V) => ∀ x, d = some x → ∃ y, v = some y ∧ RD K H x y) (fun x e => by cases e) i r
theorem RS.start : ∀ {ds : List D} {vs : List V} (n : Nat), RDs K H ds vs → RS K H (ds.map some ++ List.replicate n none) (vs.map some ++ List.replicate n none)
  | _, _, n, .nil => by
    show RS K H (List.replicate n none) (List.replicate n none)
    induction n with
    | zero => exact .nil
    | succ n ih => exact .cons (fun x e => nomatch e) ih
  | _, _, n, .cons r t => .cons (fun x e => by cases e; exact ⟨_, rfl, r⟩) (RS.start n t)
end
/-! ### exceptions -/
inductive XC where
  | own (C : Addr)
  | fld (C : Addr) (fs : List (Str × D))
def XC.cls : XC → Addr
  | .own C => C
  | .fld C _ => C
def RX (K : PySem.W.Frag) (H : Hp) : XC → Value → Option Addr → Prop
  | .own C, cls, d => cls = .ref C ∧ d = none
  | .fld C fs, cls, d => cls = .ref C ∧ ∃ (a : Addr) (vs : List (Str × V)), d = some a ∧ H a = some (.xd vs) ∧ vs.map (·.1) = fs.map (·.1) ∧ RDs K H (fs.map (·.2)) (vs.map (·.2))
theorem RX.cls {K : PySem.W.Frag} {H : Hp} {x : XC} {c : Value} {d : Option Addr} (r : RX K H x c d) : c = .ref x.cls := by
  cases x with
  | own C => exact r.1
  | fld C fs => exact r.1
/-! ### the judgements -/
abbrev QD := D → DH → Prop
abbrev QX := XC → DH → Prop
abbrev WE := Ev → DH → QD → QX → Prop
abbrev WT := Ev → DH → (Bool → DH → Prop) → QX → Prop
abbrev WA := Ev → DH → (List D → DH → Prop) → QX → Prop
structure En where
  nx : Ev → DH → Prop
  rt : D → DH → Prop
  bk : Ev → DH → Prop
  ct : Ev → DH → Prop
  rx : XC → Ev → DH → Prop
abbrev WS := En → Ev → DH → Prop
def KQ (K : PySem.W.Frag) (H : Hp) (Qn : QD) (Q : VK) : Prop := ∀ d h' v H', Pe H H' → RW K h' H' → RD K H' d v → Qn d h' → Q v H'
def KX (K : PySem.W.Frag) (H : Hp) (Qx : QX) (W : WX) (σ : L2.St) : Prop := ∀ x h' c d H', Pe H H' → RW K h' H' → RX K H' x c d → Qx x h' → W c d σ H'
theorem KQ.mono {K : PySem.W.Frag} {H H1 : Hp} {Qn : QD} {Q : VK} (k : KQ K H Qn Q) (p : Pe H H1) : KQ K H1 Qn Q := fun d h' v H' q r s t => k d h' v H' (p.trans q) r s t
theorem KX.mono {K : PySem.W.Frag} {H H1 : Hp} {Qx : QX} {W : WX} {σ : L2.St} (k : KX K H Qx W σ) (p : Pe H H1) : KX K H1 Qx W σ := fun x h' c d H' q r s t => k x h' c d H' (p.trans q) r s t
structure KS (K : PySem.W.Frag) (H : Hp) (E : En) (D : Ends) (W : WX) : Prop where
  nx : ∀ e h s H', Pe H H' → RS K H' e s → RW K h H' → E.nx e h → D.nx s H'
  rt : KQ K H E.rt D.rt
  bk : ∀ e h s H', Pe H H' → RS K H' e s → RW K h H' → E.bk e h → D.bk s H'
  ct : ∀ e h s H', Pe H H' → RS K H' e s → RW K h H' → E.ct e h → D.ct s H'
  rx : ∀ x e h s c d H', Pe H H' → RS K H' e s → RW K h H' → RX K H' x c d → E.rx x e h → W c d s H'
theorem KS.mono {K : PySem.W.Frag} {H H1 : Hp} {E : En} {D : Ends} {W : WX} (k : KS K H E D W) (p : Pe H H1) : KS K H1 E D W :=
  ⟨fun e h s H' q => k.nx e h s H' (p.trans q), k.rt.mono p, fun e h s H' q => k.bk e h s H' (p.trans q), fun e h s H' q => k.ct e h s H' (p.trans q), fun x e h s c d H' q => k.rx x e h s c d H' (p.trans q)⟩
def tE (K : PySem.W.Frag) (W : WX) (w : WE) : TE := fun σ H Q => ∃ env h Qn Qx, RS K H env σ ∧ RW K h H ∧ w env h Qn Qx ∧ KQ K H Qn Q ∧ KX K H Qx W σ
def tT (K : PySem.W.Frag) (W : WX) (w : WT) : TT := fun σ H Q => ∃ (env : Ev) (h : DH) (Qn : Bool → DH → Prop) (Qx : QX), RS K H env σ ∧ RW K h H ∧ w env h Qn Qx ∧ (∀ b h' H', Pe H H' → RW K h' H' → Qn b h' → Q b H') ∧ KX K H Qx W σ
def tA (K : PySem.W.Frag) (W : WX) (w : WA) : TA := fun σ H Q => ∃ (env : Ev) (h : DH) (Qn : List D → DH → Prop) (Qx : QX), RS K H env σ ∧ RW K h H ∧ w env h Qn Qx ∧ (∀ ds h' vs H', Pe H H' → RW K h' H' → RDs K H' ds vs → Qn ds h' → Q vs H') ∧ KX K H Qx W σ
def tS (K : PySem.W.Frag) (W : WX) (w : WS) : TS := fun D σ H => ∃ E env h, RS K H env σ ∧ RW K h H ∧ w E env h ∧ KS K H E D W
/-- a context, and what is wished of exceptions in it -/
structure Cok (X : Cx) (W : WX) : Prop where
  tk : Takes X W
  po : PassesOwn (model X.prog X.w) X.A X.env X.xe
structure DE (X : Cx) (e : Expr) (w : WE) : Prop where
  ok : ∀ W, Cok X W → PE X e (tE X.K W w)
structure DT (X : Cx) (e : Expr) (w : WT) : Prop where
  ok : ∀ W, Cok X W → PT X e (tT X.K W w)
structure DW (X : Cx) (e : Expr) (w : WT) : Prop where
  ok : ∀ W, Cok X W → PW X e (tT X.K W w)
structure DA (X : Cx) (es : List Expr) (w : WA) : Prop where
  ok : ∀ W, Cok X W → PA X es (tA X.K W w)
structure DS (X : Cx) (st : Stmt) (w : WS) : Prop where
  ok : ∀ W, Cok X W → PS X st (tS X.K W w)
structure DSs (X : Cx) (st : List Stmt) (w : WS) : Prop where
  ok : ∀ W, Cok X W → PSs X st (tS X.K W w)
theorem _root_.L2.PE.imp {X : Cx} {e : Expr} {t t' : TE} (p : PE X e t) (h : ∀ σ H Q, t' σ H Q → t σ H Q) : PE X e t' := ⟨fun pins s σ H Q I q => p.run pins s σ H Q I (h σ H Q q)⟩
theorem _root_.L2.PT.imp {X : Cx} {e : Expr} {t t' : TT} (p : PT X e t) (h : ∀ σ H Q, t' σ H Q → t σ H Q) : PT X e t' := ⟨fun pins s σ H Q I q => p.run pins s σ H Q I (h σ H Q q)⟩
theorem _root_.L2.PW.imp {X : Cx} {e : Expr} {t t' : TT} (p : PW X e t) (h : ∀ σ H Q, t' σ H Q → t σ H Q) : PW X e t' := ⟨fun wh pins s σ H Q I q => p.run wh pins s σ H Q I (h σ H Q q)⟩
theorem _root_.L2.PA.imp {X : Cx} {e : List Expr} {t t' : TA} (p : PA X e t) (h : ∀ σ H Q, t' σ H Q → t σ H Q) : PA X e t' := ⟨fun pos pins s σ H Q I q => p.run pos pins s σ H Q I (h σ H Q q)⟩
theorem _root_.L2.PS.imp {X : Cx} {e : Stmt} {t t' : TS} (p : PS X e t) (h : ∀ D σ H, t' D σ H → t D σ H) : PS X e t' := ⟨fun pins s σ H D I q => p.run pins s σ H D I (h D σ H q)⟩
theorem _root_.L2.PSs.imp {X : Cx} {e : List Stmt} {t t' : TS} (p : PSs X e t) (h : ∀ D σ H, t' D σ H → t D σ H) : PSs X e t' := ⟨fun pins s σ H D I q => p.run pins s σ H D I (h D σ H q)⟩
section
variable {X : Cx} {a b c e : Expr} {es : List Expr} {pos : Pos} {wa wb wc : WE} {ws : WA}
/-! ### constants and names -/
def wC (d : D) : WE := fun _ h Q _ => Q d h
def wVar (i : Nat) : WE := fun env h Q _ => match env[i]? with
  | some (some d) => Q d h
  | _ => False
theorem de_var {i : Nat} {e : Expr} (p : PE X e (tVar i)) : DE X e (wVar i) := ⟨fun W ck => p.imp fun σ H Q ⟨env, h, Qn, Qx, rs, rw_, q, kq, kx⟩ => by
  unfold wVar at q
  split at q
  · rename_i d e
    obtain ⟨v, e1, r⟩ := rs.get e
    exact ⟨v, e1, kq d h v H (.refl H) rw_ r q⟩
  · exact q.elim⟩
theorem dv (i : Nat) {x : Str} {pos : Pos} (hN : X.N[i]? = some x := by rfl) (hv : Vis X.env.scope x := by first | exact Or.inl rfl | exact Or.inr (Or.inl rfl) | exact Or.inr (Or.inr rfl)) (hd : (x == ("__debug__" : Str)) = false := by decide)
    (hcd : (x == ("__classdict__" : Str)) = false := by decide) : DE X (.Name x pos) (wVar i) := de_var (pe_var hN hv hd hcd)
theorem de_const {e : Expr} {d : D} {v : V} (p : PE X e (tC v)) (r : ∀ H, RD X.K H d v) : DE X e (wC d) := ⟨fun W ck => p.imp fun σ H Q ⟨env, h, Qn, Qx, rs, rw_, q, kq, kx⟩ => kq d h v H (.refl H) rw_ (r H) q⟩
theorem de_int {i : Int} {j : Nat} {pos : Pos} : DE X (.Constant (.int i) j pos) (wC (.int i)) := de_const pe_int fun _ => .int i
theorem de_bl {i : Bool} {j : Nat} {pos : Pos} : DE X (.Constant (.bool i) j pos) (wC (.bl i)) := de_const pe_bl fun _ => .bl i
theorem de_non {j : Nat} {pos : Pos} : DE X (.Constant .none j pos) (wC .non) := de_const pe_non fun _ => .non
theorem de_str {x : Str} {j : Nat} {pos : Pos} : DE X (.Constant (.str x) j pos) (wC (.str x)) := de_const pe_str fun _ => .str x
/-! ### argument lists, displays -/
def wNil : WA := fun _ h Q _ => Q [] h
def wCons (wa : WE) (ws : WA) : WA := fun env h Q Qx => wa env h (fun d h1 => ws env h1 (fun ds h2 => Q (d :: ds) h2) Qx) Qx
theorem da_nil : DA X [] wNil := ⟨fun W ck => pa_nil.imp fun σ H Q ⟨env, h, Qn, Qx, rs, rw_, q, kq, kx⟩ => kq [] h [] H (.refl H) rw_ .nil q⟩
theorem da_cons (ha : DE X e wa) (hs : DA X es ws) (hst : starEach (e :: es) X.env = (false, eval e X.env) :: starEach es X.env := by rfl) : DA X (e :: es) (wCons wa ws) :=
  ⟨fun W ck => (pa_cons (ha.ok W ck) (hs.ok W ck) hst).imp fun σ H Q ⟨env, h, Qn, Qx, rs, rw_, q, kq, kx⟩ =>
    ⟨env, h, _, Qx, rs, rw_, q, fun d h1 v H1 p1 r1 rd q1 => ⟨env, h1, _, Qx, rs.mono p1, r1, q1, fun ds h2 vs H2 p2 r2 rds q2 => kq (d :: ds) h2 (v :: vs) H2 (p1.trans p2) r2 (.cons (rd.mono p2) rds) q2, kx.mono p1⟩, kx⟩⟩
def wTup (ws : WA) : WE := fun env h Q Qx => ws env h (fun ds h1 => ds.length ≤ sizeLine ∧ Q (.tup ds) h1) Qx
theorem de_tup {k : Nat} (hs : DA X es ws) : DE X (.Tuple es k pos) (wTup ws) :=
  ⟨fun W ck => (pe_tup (hs.ok W ck)).imp fun σ H Q ⟨env, h, Qn, Qx, rs, rw_, q, kq, kx⟩ =>
    ⟨env, h, _, Qx, rs, rw_, q, fun ds h1 vs H1 p1 r1 rds ⟨hl, q1⟩ => ⟨by rw [← rds.length]; exact hl, fun p hp =>
      kq (.tup ds) h1 (.ref p) _ (p1.trans (Pe.new hp)) (r1.beside hp) (.tup upd_same (rds.mono (Pe.new hp))) q1⟩, kx⟩⟩
/-- a new list -/
def NewL (h : DH) (ds : List D) (Q : QD) : Prop := ∀ p, h p = none → Q (.ref p) (dup h p (.lst ds))
theorem newL_ok {K : PySem.W.Frag} {H H1 : Hp} {h1 : DH} {ds : List D} {vs : List V} {Qn : QD} {Q : VK} {p : Addr} (p1 : Pe H H1) (r1 : RW K h1 H1) (rds : RDs K H1 ds vs) (q1 : NewL h1 ds Qn) (kq : KQ K H Qn Q) (hp : H1 p = none) : Q (.ref p) (upd H1 p (.lst vs)) :=
  kq (.ref p) _ (.ref p) _ (p1.trans (Pe.new hp)) (r1.new hp (show RO K _ p (.lst ds) from ⟨vs, upd_same, rds.mono (Pe.new hp)⟩)) (.ref p) (q1 p (r1.fresh hp))
def wLst (ws : WA) : WE := fun env h Q Qx => ws env h (fun ds h1 => ds.length ≤ sizeLine ∧ NewL h1 ds Q) Qx
theorem de_lst (hs : DA X es ws) : DE X (.List es pos) (wLst ws) :=
  ⟨fun W ck => (pe_lst (hs.ok W ck)).imp fun σ H Q ⟨env, h, Qn, Qx, rs, rw_, q, kq, kx⟩ =>
    ⟨env, h, _, Qx, rs, rw_, q, fun ds h1 vs H1 p1 r1 rds ⟨hl, q1⟩ => ⟨by rw [← rds.length]; exact hl, fun p hp => newL_ok p1 r1 rds q1 kq hp⟩, kx⟩⟩
/-! ### two-place operations by values -/
abbrev G2 := D → D → DH → QD → Prop
/-- g is carried by r -/
def Sim2 (K : PySem.W.Frag) (g : G2) (r : R2) : Prop := ∀ x y h Qn H vx vy Q, RD K H x vx → RD K H y vy → RW K h H → g x y h Qn → KQ K H Qn Q → r vx vy H Q
structure Op2 (X : Cx) (f : Value → Value → Sem Value) (g : G2) : Prop where
  ex : ∃ r, OpR X f r ∧ Sim2 X.K g r
def wOp2 (g : G2) (wa wb : WE) : WE := fun env h Q Qx => wa env h (fun x h1 => wb env h1 (fun y h2 => g x y h2 Q) Qx) Qx
/-- the common turn: two expressions, then a step -/
theorem two_ok {K : PySem.W.Frag} {W : WX} {σ : L2.St} {H : Hp} {Q : VK} {g : G2} {r : R2} (s : Sim2 K g r) (h : tE K W (wOp2 g wa wb) σ H Q) : tOp r (tE K W wa) (tE K W wb) σ H Q := by
  obtain ⟨env, h, Qn, Qx, rs, rw_, q, kq, kx⟩ := h
  exact ⟨env, h, _, Qx, rs, rw_, q, fun x h1 vx H1 p1 r1 rx q1 => ⟨env, h1, _, Qx, rs.mono p1, r1, q1, fun y h2 vy H2 p2 r2 ry q2 => s x y h2 Qn H2 vx vy Q (rx.mono p2) ry r2 q2 (kq.mono (p1.trans p2)), kx.mono p1⟩, kx⟩
theorem de_bin {op : Operator} {g : G2} (o : Op2 X (binaryOp op) g) (ha : DE X a wa) (hb : DE X b wb) : DE X (.BinOp a op b pos) (wOp2 g wa wb) := by
  obtain ⟨r, ho, s⟩ := o.ex
  exact ⟨fun W ck => (pe_op ho (ha.ok W ck) (hb.ok W ck)).imp fun σ H Q h => two_ok s h⟩
theorem de_cmp {op : CmpOp} {g : G2} (o : Op2 X (compareOp op) g) (ha : DE X a wa) (hb : DE X b wb) (hm : behindInMarks op b = false := by first | exact nobehind _ (by decide) (by decide) | rfl) : DE X (.Compare a [op] [b] pos) (wOp2 g wa wb) := by
  obtain ⟨r, ho, s⟩ := o.ex
  exact ⟨fun W ck => (pe_cmpR ho (ha.ok W ck) (hb.ok W ck) hm).imp fun σ H Q h => two_ok s h⟩
theorem de_ix {g : G2} (o : ∃ r, IxR X r ∧ Sim2 X.K g r) (ha : DE X a wa) (hb : DE X b wb) (hs : PlainIx b := by exact fun _ _ => rfl) : DE X (.Subscript a b pos) (wOp2 g wa wb) := by
  obtain ⟨r, ho, s⟩ := o
  exact ⟨fun W ck => (pe_ix ho (ha.ok W ck) (hb.ok W ck) hs).imp fun σ H Q h => two_ok s h⟩
/-- a test from an expression whose value is a truth value -/
def wB (w : WE) : WT := fun env h Q Qx => w env h (fun d h1 => match d with
  | .bl b => Q b h1
  | _ => False) Qx
theorem isB {d : D} {h : DH} {Q : Bool → DH → Prop} (q : (match d with | .bl b => Q b h | _ => False)) : ∃ b, d = .bl b ∧ Q b h := by
  cases d <;> first | exact q.elim | exact ⟨_, rfl, q⟩
theorem RD.bl_inv {K : PySem.W.Frag} {H : Hp} {b : Bool} {v : V} (r : RD K H (.bl b) v) : v = .bl b := by cases r; rfl
theorem dt_cmp {op : CmpOp} {g : G2} (o : Op2 X (compareOp op) g) (ha : DE X a wa) (hb : DE X b wb) (hm : behindInMarks op b = false := by first | exact nobehind _ (by decide) (by decide) | rfl) : DT X (.Compare a [op] [b] pos) (wB (wOp2 g wa wb)) := by
  obtain ⟨r, ho, s⟩ := o.ex
  refine ⟨fun W ck => (pt_cmpR ho (ha.ok W ck) (hb.ok W ck) hm).imp fun σ H Q ⟨env, h, Qn, Qx, rs, rw_, q, kq, kx⟩ => ?_⟩
  refine two_ok s ⟨env, h, _, Qx, rs, rw_, q, fun d h' v H' p r rd q' => ?_, kx⟩
  obtain ⟨k, rfl, q'⟩ := isB q'
  exact ⟨k, rd.bl_inv, kq k h' H' p r q'⟩
theorem dt_val (ha : DE X a wa) (he : ∀ whole, isTrue a X.env whole = (do let v ← whole; standAt a.pos; holding [v] (truthy v)) := by intro _; rfl) : DT X a (wB wa) := by
  refine ⟨fun W ck => (pt_val (ha.ok W ck) he).imp fun σ H Q ⟨env, h, Qn, Qx, rs, rw_, q, kq, kx⟩ => ?_⟩
  refine ⟨env, h, _, Qx, rs, rw_, q, fun d h' v H' p r rd q' => ?_, kx⟩
  obtain ⟨k, rfl, q'⟩ := isB q'
  exact ⟨k, rd.bl_inv, kq k h' H' p r q'⟩
/-- truth of any value -/
def Tru (d : D) (h : DH) (Q : Bool → DH → Prop) : Prop := match d with
  | .non => Q false h
  | .bl b => Q b h
  | .int i => Q (i != 0) h
  | .str y => y.length ≤ sizeLine ∧ Q ((y.length : Int) != 0) h
  | .tup xs => Q (!xs.isEmpty) h
  | .sl xs => Q (!xs.isEmpty) h
  | .ref a => match h a with
    | some (.lst xs) => Q (!xs.isEmpty) h
    | _ => False
def wTru (w : WE) : WT := fun env h Q Qx => w env h (fun d h1 => Tru d h1 Q) Qx
theorem RDs.empty {K : PySem.W.Frag} {H : Hp} {ds : List D} {vs : List V} (r : RDs K H ds vs) : ds.isEmpty = vs.isEmpty := by cases r <;> rfl
theorem dt_truth (ha : DE X a wa) (he : ∀ whole, isTrue a X.env whole = (do let v ← whole; standAt a.pos; holding [v] (truthy v)) := by intro _; rfl) : DT X a (wTru wa) := by
  refine ⟨fun W ck => (pt_truth (ha.ok W ck) he).imp fun σ H Q ⟨env, h, Qn, Qx, rs, rw_, q, kq, kx⟩ => ?_⟩
  refine ⟨env, h, _, Qx, rs, rw_, q, fun d h' v H' p r rd q' => ?_, kx⟩
  cases d with
  | non => cases rd; exact ⟨false, rfl, kq _ _ _ p r q'⟩
  | bl b => cases rd; exact ⟨b, rfl, kq _ _ _ p r q'⟩
  | int i => cases rd; exact ⟨_, rfl, kq _ _ _ p r q'⟩
  | str y => cases rd; exact ⟨_, ⟨q'.1, rfl⟩, kq _ _ _ p r q'.2⟩
  | tup xs =>
    cases rd with
    | tup t rr => exact ⟨_, .inr (.inl ⟨_, SqT.of t, rfl⟩), kq _ _ _ p r (by rw [← rr.empty]; exact q')⟩
  | sl xs =>
    cases rd with
    | sl t rr => exact ⟨_, .inl ⟨_, t.seq, rfl⟩, kq _ _ _ p r (by rw [← rr.empty]; exact q')⟩
  | ref b =>
    cases rd
    unfold Tru at q'
    dsimp only at q'
    split at q'
    · rename_i xs e
      obtain ⟨vs, hv, rr⟩ := r _ _ e
      exact ⟨_, .inl ⟨_, SqL.of hv, rfl⟩, kq _ _ _ p r (by rw [← rr.empty]; exact q')⟩
    · exact q'.elim
/-! ### and, or, not; a if t else b -/
def wAnd (wa wb : WT) : WT := fun env h Q Qx => wa env h (fun c h1 => if c = true then wb env h1 Q Qx else Q false h1) Qx
def wOr (wa wb : WT) : WT := fun env h Q Qx => wa env h (fun c h1 => if c = true then Q true h1 else wb env h1 Q Qx) Qx
def wNot (wa : WT) : WT := fun env h Q Qx => wa env h (fun c h1 => Q (!c) h1) Qx
variable {ta tb : WT} {rest : List Expr}
theorem dw_and1 (ha : DT X a ta) : DW X (.BoolOp .And [a] pos) ta := ⟨fun W ck => pw_and1 (ha.ok W ck)⟩
theorem dw_or1 (ha : DT X a ta) : DW X (.BoolOp .Or [a] pos) ta := ⟨fun W ck => pw_or1 (ha.ok W ck)⟩
theorem dw_and (ha : DT X a ta) (hb : DW X (.BoolOp .And (b :: rest) pos) tb) : DW X (.BoolOp .And (a :: b :: rest) pos) (wAnd ta tb) :=
  ⟨fun W ck => (pw_and (ha.ok W ck) (hb.ok W ck)).imp fun σ H Q ⟨env, h, Qn, Qx, rs, rw_, q, kq, kx⟩ => ⟨env, h, _, Qx, rs, rw_, q, fun c h1 H1 p1 r1 q1 => by
    cases c with
    | true =>
      rw [if_pos rfl] at q1 ⊢
      exact ⟨env, h1, Qn, Qx, rs.mono p1, r1, q1, fun b h' H' p r q => kq b h' H' (p1.trans p) r q, kx.mono p1⟩
    | false =>
      rw [if_neg Bool.false_ne_true] at q1 ⊢
      exact kq _ _ _ p1 r1 q1, kx⟩⟩
theorem dw_or (ha : DT X a ta) (hb : DW X (.BoolOp .Or (b :: rest) pos) tb) : DW X (.BoolOp .Or (a :: b :: rest) pos) (wOr ta tb) :=
  ⟨fun W ck => (pw_or (ha.ok W ck) (hb.ok W ck)).imp fun σ H Q ⟨env, h, Qn, Qx, rs, rw_, q, kq, kx⟩ => ⟨env, h, _, Qx, rs, rw_, q, fun c h1 H1 p1 r1 q1 => by
    cases c with
    | false =>
      rw [if_neg Bool.false_ne_true] at q1 ⊢
      exact ⟨env, h1, Qn, Qx, rs.mono p1, r1, q1, fun b h' H' p r q => kq b h' H' (p1.trans p) r q, kx.mono p1⟩
    | true =>
      rw [if_pos rfl] at q1 ⊢
      exact kq _ _ _ p1 r1 q1, kx⟩⟩
theorem dt_w (h : DW X a ta) : DT X a ta := ⟨fun W ck => (h.ok W ck).pt⟩
theorem dt_not (ha : DT X a ta) : DT X (.UnaryOp .Not a pos) (wNot ta) :=
  ⟨fun W ck => (pt_not (ha.ok W ck)).imp fun σ H Q ⟨env, h, Qn, Qx, rs, rw_, q, kq, kx⟩ => ⟨env, h, _, Qx, rs, rw_, q, fun c h1 H1 p1 r1 q1 => kq _ _ _ p1 r1 q1, kx⟩⟩
/-- as values, of truth values -/
def wAndV (wa wb : WE) : WE := fun env h Q Qx => wa env h (fun d h1 => match d with
  | .bl c => if c = true then wb env h1 Q Qx else Q (.bl false) h1
  | _ => False) Qx
def wOrV (wa wb : WE) : WE := fun env h Q Qx => wa env h (fun d h1 => match d with
  | .bl c => if c = true then Q (.bl true) h1 else wb env h1 Q Qx
  | _ => False) Qx
def wNotV (wa : WE) : WE := fun env h Q Qx => wa env h (fun d h1 => match d with
  | .bl c => Q (.bl (!c)) h1
  | _ => False) Qx
theorem isB2 {d : D} {P : Bool → Prop} (q : (match d with | .bl b => P b | _ => False)) : ∃ b, d = .bl b ∧ P b := by
  cases d <;> first | exact q.elim | exact ⟨_, rfl, q⟩
theorem de_one {op : BoolOp} (ha : DE X a wa) : DE X (.BoolOp op [a] pos) wa := ⟨fun W ck => pe_one (ha.ok W ck)⟩
theorem de_and (ha : DE X a wa) (hb : DE X (.BoolOp .And (b :: rest) pos) wb) : DE X (.BoolOp .And (a :: b :: rest) pos) (wAndV wa wb) :=
  ⟨fun W ck => (pe_and (ha.ok W ck) (hb.ok W ck)).imp fun σ H Q ⟨env, h, Qn, Qx, rs, rw_, q, kq, kx⟩ => ⟨env, h, _, Qx, rs, rw_, q, fun d h1 v H1 p1 r1 rd q1 => by
    obtain ⟨c, ed, q2⟩ := isB2 (P := fun c => _) q1; subst ed; clear q1
    refine ⟨c, rd.bl_inv, ?_⟩
    cases c with
    | true =>
      rw [if_pos rfl] at q2 ⊢
      exact ⟨env, h1, Qn, Qx, rs.mono p1, r1, q2, kq.mono p1, kx.mono p1⟩
    | false =>
      rw [if_neg Bool.false_ne_true] at q2 ⊢
      exact kq _ _ _ _ p1 r1 (.bl _) q2, kx⟩⟩
theorem de_or (ha : DE X a wa) (hb : DE X (.BoolOp .Or (b :: rest) pos) wb) : DE X (.BoolOp .Or (a :: b :: rest) pos) (wOrV wa wb) :=
  ⟨fun W ck => (pe_or (ha.ok W ck) (hb.ok W ck)).imp fun σ H Q ⟨env, h, Qn, Qx, rs, rw_, q, kq, kx⟩ => ⟨env, h, _, Qx, rs, rw_, q, fun d h1 v H1 p1 r1 rd q1 => by
    obtain ⟨c, ed, q2⟩ := isB2 (P := fun c => _) q1; subst ed; clear q1
    refine ⟨c, rd.bl_inv, ?_⟩
    cases c with
    | false =>
      rw [if_neg Bool.false_ne_true] at q2 ⊢
      exact ⟨env, h1, Qn, Qx, rs.mono p1, r1, q2, kq.mono p1, kx.mono p1⟩
    | true =>
      rw [if_pos rfl] at q2 ⊢
      exact kq _ _ _ _ p1 r1 (.bl _) q2, kx⟩⟩
theorem de_not (ha : DE X a wa) : DE X (.UnaryOp .Not a pos) (wNotV wa) :=
  ⟨fun W ck => (pe_not (ha.ok W ck)).imp fun σ H Q ⟨env, h, Qn, Qx, rs, rw_, q, kq, kx⟩ => ⟨env, h, _, Qx, rs, rw_, q, fun d h1 v H1 p1 r1 rd q1 => by
    obtain ⟨c, ed, q2⟩ := isB2 (P := fun c => _) q1; subst ed; clear q1
    exact ⟨c, rd.bl_inv, kq _ _ _ _ p1 r1 (.bl _) q2⟩, kx⟩⟩
def wIf (tc : WT) (wa wb : WE) : WE := fun env h Q Qx => tc env h (fun c h1 => if c = true then wa env h1 Q Qx else wb env h1 Q Qx) Qx
theorem de_if (hc : DT X c ta) (ha : DE X a wa) (hb : DE X b wb) : DE X (.IfExp c a b pos) (wIf ta wa wb) :=
  ⟨fun W ck => (pe_ifExp (hc.ok W ck) (ha.ok W ck) (hb.ok W ck)).imp fun σ H Q ⟨env, h, Qn, Qx, rs, rw_, q, kq, kx⟩ => ⟨env, h, _, Qx, rs, rw_, q, fun c h1 H1 p1 r1 q1 => by
    cases c with
    | true =>
      rw [if_pos rfl] at q1 ⊢
      exact ⟨env, h1, Qn, Qx, rs.mono p1, r1, q1, kq.mono p1, kx.mono p1⟩
    | false =>
      rw [if_neg Bool.false_ne_true] at q1 ⊢
      exact ⟨env, h1, Qn, Qx, rs.mono p1, r1, q1, kq.mono p1, kx.mono p1⟩, kx⟩⟩
end
end DL
namespace DL
open PySem PySem.Spec PyProof.Rows L2
/-! ### operations -/
section
variable {X : Cx} {K : PySem.W.Frag} {H : Hp}
theorem RD.int_inv {i : Int} {v : V} (r : RD K H (.int i) v) : v = .int i := by cases r; rfl
theorem RD.str_inv {i : Str} {v : V} (r : RD K H (.str i) v) : v = .str i := by cases r; rfl
theorem RD.non_inv {v : V} (r : RD K H .non v) : v = .non := by cases r; rfl
theorem RD.ref_inv {a : Addr} {v : V} (r : RD K H (.ref a) v) : v = .ref a := by cases r; rfl
theorem RD.tup_inv {ds : List D} {v : V} (r : RD K H (.tup ds) v) : ∃ a vs, v = .ref a ∧ H a = some (.tup vs) ∧ RDs K H ds vs := by
  cases r with
  | tup t r => exact ⟨_, _, rfl, t, r⟩
theorem RD.sl_inv {ds : List D} {v : V} (r : RD K H (.sl ds) v) : ∃ a vs, v = .ref a ∧ StL K H a vs ∧ RDs K H ds vs := by
  cases r with
  | sl t r => exact ⟨_, _, rfl, t, r⟩
theorem KQ.here {Qn : QD} {Q : VK} (k : KQ K H Qn Q) {d : D} {h : DH} {v : V} (r : RW K h H) (rd : RD K H d v) (q : Qn d h) : Q v H := k d h v H (.refl H) r rd q
/-- ints under C -/
def gI (C : Int → Int → Prop) (g : Int → Int → D) : G2 := fun x y h Q => match x, y with
  | .int i, .int j => C i j ∧ Q (g i j) h
  | _, _ => False
def gI0 (g : Int → Int → D) : G2 := fun x y h Q => match x, y with
  | .int i, .int j => Q (g i j) h
  | _, _ => False
theorem sim_I {C : Int → Int → Prop} {g : Int → Int → D} {g' : Int → Int → V} (hg : ∀ i j H, RD K H (g i j) (g' i j)) : Sim2 K (gI C g) (rI C g') := by
  intro x y h Qn H vx vy Q rx ry rw_ q kq
  cases x <;> try exact q.elim
  cases y <;> try exact q.elim
  cases rx; cases ry
  exact ⟨_, _, rfl, rfl, q.1, kq.here rw_ (hg _ _ _) q.2⟩
theorem sim_I0 {g : Int → Int → D} {g' : Int → Int → V} (hg : ∀ i j H, RD K H (g i j) (g' i j)) : Sim2 K (gI0 g) (rI0 g') := by
  intro x y h Qn H vx vy Q rx ry rw_ q kq
  cases x <;> try exact q.elim
  cases y <;> try exact q.elim
  cases rx; cases ry
  exact ⟨_, _, rfl, rfl, kq.here rw_ (hg _ _ _) q⟩
theorem o_sub : Op2 X (binaryOp .Sub) (gI0 fun i j => .int (i - j)) := ⟨_, op_sub, sim_I0 fun _ _ _ => .int _⟩
theorem o_mul : Op2 X (binaryOp .Mult) (gI CMul fun i j => .int (i * j)) := ⟨_, op_mul, sim_I fun _ _ _ => .int _⟩
theorem o_div : Op2 X (binaryOp .FloorDiv) (gI CDiv fun i j => .int (i / j)) := ⟨_, op_fdiv, sim_I fun _ _ _ => .int _⟩
theorem o_mod : Op2 X (binaryOp .Mod) (gI (fun _ j => 0 < j) fun i j => .int (i % j)) := ⟨_, op_mod, sim_I fun _ _ _ => .int _⟩
theorem o_pow : Op2 X (binaryOp .Pow) (gI CPow fun i j => .int (i ^ j.toNat)) := ⟨_, op_pow, sim_I fun _ _ _ => .int _⟩
theorem o_shl : Op2 X (binaryOp .LShift) (gI CPow fun i j => .int (i * 2 ^ j.toNat)) := ⟨_, op_shl, sim_I fun _ _ _ => .int _⟩
theorem o_shr : Op2 X (binaryOp .RShift) (gI (fun _ j => 0 ≤ j) fun i j => .int (i / 2 ^ j.toNat)) := ⟨_, op_shr, sim_I fun _ _ _ => .int _⟩
theorem o_and : Op2 X (binaryOp .BitAnd) (gI0 fun i j => .int (Builtin.bitAnd i j)) := ⟨_, op_and, sim_I0 fun _ _ _ => .int _⟩
theorem o_lt : Op2 X (compareOp .Lt) (gI0 fun i j => .bl (decide (i < j))) := ⟨_, op_lt, sim_I0 fun _ _ _ => .bl _⟩
theorem o_le : Op2 X (compareOp .LtE) (gI0 fun i j => .bl (decide (i ≤ j))) := ⟨_, op_le, sim_I0 fun _ _ _ => .bl _⟩
theorem o_gt : Op2 X (compareOp .Gt) (gI0 fun i j => .bl (decide (j < i))) := ⟨_, op_gt, sim_I0 fun _ _ _ => .bl _⟩
theorem o_ge : Op2 X (compareOp .GtE) (gI0 fun i j => .bl (decide (j ≤ i))) := ⟨_, op_ge, sim_I0 fun _ _ _ => .bl _⟩
/-- a + b: ints, texts, tuples, lists -/
def gAdd : G2 := fun x y h Q => match x, y with
  | .int i, .int j => Q (.int (i + j)) h
  | .str s, .str t => s.length + t.length ≤ sizeLine ∧ Q (.str (s ++ t)) h
  | .tup xs, .tup ys => xs.length + ys.length ≤ sizeLine ∧ Q (.tup (xs ++ ys)) h
  | .ref a, .ref b => match h a, h b with
    | some (.lst xs), some (.lst ys) => xs.length + ys.length ≤ sizeLine ∧ NewL h (xs ++ ys) Q
    | _, _ => False
  | _, _ => False
theorem o_add : Op2 X (binaryOp .Add) gAdd := by
  refine ⟨_, op_add.or (op_add_str.or (op_catA.or op_cat)), ?_⟩
  intro x y h Qn H vx vy Q rx ry rw_ q kq
  cases x with
  | int i =>
    cases y <;> try exact q.elim
    cases rx; cases ry
    exact .inl ⟨_, _, rfl, rfl, kq.here rw_ (.int _) q⟩
  | str s =>
    cases y <;> try exact q.elim
    cases rx; cases ry
    exact .inr (.inl ⟨_, _, rfl, rfl, q.1, kq.here rw_ (.str _) q.2⟩)
  | tup xs =>
    cases y <;> try exact q.elim
    obtain ⟨a, vs, rfl, ta, ra⟩ := rx.tup_inv
    obtain ⟨b, ws, rfl, tb, rb⟩ := ry.tup_inv
    refine .inr (.inr (.inl ⟨a, b, vs, ws, rfl, rfl, SqT.of ta, SqT.of tb, by rw [← ra.length, ← rb.length]; exact q.1, fun e => ?_, fun e1 e2 => ?_, fun _ _ p hp => ?_⟩))
    · subst e
      cases ra
      exact kq.here rw_ (.tup tb rb) q.2
    · subst e2
      cases rb
      refine kq.here rw_ (.tup ta ra) ?_
      have z := q.2
      rw [List.append_nil] at z
      exact z
    · exact kq _ h _ _ (Pe.new hp) (rw_.beside hp) (.tup upd_same ((ra.append rb).mono (Pe.new hp))) q.2
  | ref a =>
    cases y <;> try exact q.elim
    rename_i b
    cases rx; cases ry
    unfold gAdd at q
    dsimp only at q
    split at q
    · rename_i xs ys e1 e2
      obtain ⟨vs, h1, r1⟩ := rw_ _ _ e1
      obtain ⟨ws, h2, r2⟩ := rw_ _ _ e2
      exact .inr (.inr (.inr ⟨_, _, vs, ws, rfl, rfl, h1, h2, by rw [← r1.length, ← r2.length]; exact q.1, fun p hp => newL_ok (.refl H) rw_ (r1.append r2) q.2 kq hp⟩))
    · exact q.elim
  | _ => exact q.elim
/-- is, is not: None, truth values -/
def gIs (neg : Bool) : G2 := fun x y h Q => match x, y with
  | .non, .non => Q (.bl (!neg)) h
  | _, .non => Q (.bl neg) h
  | .bl a, .bl b => Q (.bl (if neg = true then !decide (a = b) else decide (a = b))) h
  | _, _ => False
theorem RD.not_non {d : D} {v : V} (r : RD K H d v) (n : d ≠ .non) : v ≠ .non := by
  cases r <;> first | exact absurd rfl n | exact fun z => nomatch z
theorem o_isnot : Op2 X (compareOp .IsNot) (gIs true) := by
  refine ⟨_, op_notN.or op_notBl, ?_⟩
  intro x y h Qn H vx vy Q rx ry rw_ q kq
  cases y with
  | non =>
    cases ry
    refine .inl ⟨rfl, ?_⟩
    cases x with
    | non => cases rx; exact kq.here rw_ (.bl _) q
    | _ => (have n := rx.not_non (fun z => nomatch z); rw [decide_eq_false n]; exact kq.here rw_ (.bl _) q)
  | bl b =>
    cases x <;> try exact q.elim
    cases rx; cases ry
    exact .inr ⟨_, _, rfl, rfl, kq.here rw_ (.bl _) q⟩
  | _ => cases x <;> exact q.elim
theorem o_is : Op2 X (compareOp .Is) (gIs false) := by
  refine ⟨_, op_isN.or op_isBl, ?_⟩
  intro x y h Qn H vx vy Q rx ry rw_ q kq
  cases y with
  | non =>
    cases ry
    refine .inl ⟨rfl, ?_⟩
    cases x with
    | non => cases rx; exact kq.here rw_ (.bl _) q
    | _ => (have n := rx.not_non (fun z => nomatch z); rw [decide_eq_false n]; exact kq.here rw_ (.bl _) q)
  | bl b =>
    cases x <;> try exact q.elim
    cases rx; cases ry
    exact .inr ⟨_, _, rfl, rfl, kq.here rw_ (.bl _) q⟩
  | _ => cases x <;> exact q.elim
/-! ### ==, != of data -/
mutual
def pyD (f : Addr → Option PyData) : D → Option PyData
  | .non => some .none
  | .bl b => some (.bool b)
  | .int i => some (.int i)
  | .str x => some (.str x)
  | .tup xs => (pyDs f xs).map .tuple
  | .sl xs => (pyDs f xs).map .list
  | .ref a => f a
def pyDs (f : Addr → Option PyData) : List D → Option (List PyData)
  | [] => some []
  | x :: xs => match pyD f x, pyDs f xs with
    | some d, some ds => some (d :: ds)
    | _, _ => none
end
def pyR : Nat → DH → Addr → Option PyData
  | 0, _, _ => none
  | n + 1, h, a => match h a with
    | some (.lst xs) => (pyDs (pyR n h) xs).map .list
    | _ => none
mutual
theorem pyD_ok {f : Addr → Option PyData} (hf : ∀ a d, f a = some d → Dp K H (.ref a) d) : ∀ {x : D} {v : V} {d : PyData}, RD K H x v → pyD f x = some d → Dp K H v d
  | _, _, _, .non, e => by simp only [pyD, Option.some.injEq] at e; subst e; exact .non
  | _, _, _, .bl b, e => by simp only [pyD, Option.some.injEq] at e; subst e; exact .bl b
  | _, _, _, .int b, e => by simp only [pyD, Option.some.injEq] at e; subst e; exact .int b
  | _, _, _, .str b, e => by simp only [pyD, Option.some.injEq] at e; subst e; exact .str b
  | _, _, _, .tup t r, e => by
    simp only [pyD, Option.map_eq_some_iff] at e
    obtain ⟨ds, e1, rfl⟩ := e
    exact .tup (SqT.of t) (pyDs_ok hf r e1)
  | _, _, _, .sl t r, e => by
    simp only [pyD, Option.map_eq_some_iff] at e
    obtain ⟨ds, e1, rfl⟩ := e
    exact .lst t.seq (pyDs_ok hf r e1)
  | _, _, _, .ref a, e => by simp only [pyD] at e; exact hf _ _ e
theorem pyDs_ok {f : Addr → Option PyData} (hf : ∀ a d, f a = some d → Dp K H (.ref a) d) : ∀ {xs : List D} {vs : List V} {ds : List PyData}, RDs K H xs vs → pyDs f xs = some ds → DpAll K H vs ds
  | _, _, _, .nil, e => by simp only [pyDs, Option.some.injEq] at e; subst e; exact .nil
  | _, _, _, .cons r t, e => by
    rw [pyDs] at e
    split at e
    · rename_i d ds e1 e2
      cases e
      exact .cons (pyD_ok hf r e1) (pyDs_ok hf t e2)
    · cases e
end
theorem pyR_ok {h : DH} (rw_ : RW K h H) : ∀ (n : Nat) (a : Addr) (d : PyData), pyR n h a = some d → Dp K H (.ref a) d
  | 0, _, _, e => by cases e
  | n + 1, a, d, e => by
    rw [pyR] at e
    split at e
    · rename_i xs e1
      simp only [Option.map_eq_some_iff] at e
      obtain ⟨ds, e2, rfl⟩ := e
      obtain ⟨vs, hv, r⟩ := rw_ _ _ e1
      exact .lst (SqL.of hv) (pyDs_ok (pyR_ok rw_ n) r e2)
    · cases e
/-- data at most three lists deep -/
abbrev py (h : DH) (x : D) : Option PyData := pyD (pyR 3 h) x
def gEq (neg : Bool) : G2 := fun x y h Q => match py h x, py h y with
  | some d, some e => SeqAt.shaped d = true ∧ SeqAt.shaped e = true ∧ Q (.bl (if neg = true then !PyData.eqv d e else PyData.eqv d e)) h
  | _, _ => False
theorem o_eq (hu : X.A.units + 64 < cLine) : Op2 X (compareOp .Eq) (gEq false) := by
  refine ⟨_, op_eqD hu, ?_⟩
  intro x y h Qn H vx vy Q rx ry rw_ q kq
  unfold gEq at q
  split at q
  · rename_i d e e1 e2
    exact ⟨d, e, pyD_ok (pyR_ok rw_ 3) rx e1, pyD_ok (pyR_ok rw_ 3) ry e2, q.1, q.2.1, kq.here rw_ (.bl _) q.2.2⟩
  · exact q.elim
theorem o_ne (hu : X.A.units + 64 < cLine) : Op2 X (compareOp .NotEq) (gEq true) := by
  refine ⟨_, op_neD hu, ?_⟩
  intro x y h Qn H vx vy Q rx ry rw_ q kq
  unfold gEq at q
  split at q
  · rename_i d e e1 e2
    exact ⟨d, e, pyD_ok (pyR_ok rw_ 3) rx e1, pyD_ok (pyR_ok rw_ 3) ry e2, q.1, q.2.1, kq.here rw_ (.bl _) q.2.2⟩
  · exact q.elim
/-! ### items, slices -/
def QAt (h : DH) (Q : QD) (o : Option D) : Prop := match o with
  | some d => Q d h
  | none => False
theorem QAt.get {h : DH} {Q : QD} {o : Option D} (q : QAt h Q o) : ∃ d, o = some d ∧ Q d h := by
  cases o with
  | none => exact q.elim
  | some d => exact ⟨d, rfl, q⟩
def gIx : G2 := fun x y h Q => match x, y with
  | .tup xs, .int i => QAt h Q (atI xs i)
  | .sl xs, .int i => QAt h Q (atI xs i)
  | .str z, .int i => z.length ≤ sizeLine ∧ QAt h Q ((atI z.cps.toList i).map fun c => .str ⟨#[c]⟩)
  | .ref a, .int i => match h a with
    | some (.lst xs) => QAt h Q (atI xs i)
    | _ => False
  | _, _ => False
theorem RDs.at {xs : List D} {vs : List V} (r : RDs K H xs vs) {i : Int} {d : D} (e : atI xs i = some d) : ∃ v, atI vs i = some v ∧ RD K H d v := by
  unfold atI at e ⊢
  rw [← r.length]
  cases q : ixN xs.length i with
  | none => rw [q] at e; cases e
  | some j =>
    rw [q] at e
    exact r.get (i := j) e
theorem o_ix : ∃ r, IxR X r ∧ Sim2 X.K gIx r := by
  refine ⟨_, ix_seq, ?_⟩
  intro x y h Qn H vx vy Q rx ry rw_ q kq
  cases y <;> try (cases x <;> exact q.elim)
  rename_i i
  cases ry
  cases x with
  | tup xs =>
    obtain ⟨a, vs, rfl, t, r⟩ := rx.tup_inv
    obtain ⟨d, e, q⟩ := QAt.get q
    obtain ⟨v, e1, rd⟩ := r.at e
    exact .inr (.inl ⟨_, _, _, _, rfl, rfl, SqT.of t, e1, kq.here rw_ rd q⟩)
  | sl xs =>
    obtain ⟨a, vs, rfl, t, r⟩ := rx.sl_inv
    obtain ⟨d, e, q⟩ := QAt.get q
    obtain ⟨v, e1, rd⟩ := r.at e
    exact .inl ⟨_, _, _, _, rfl, rfl, t.seq, e1, kq.here rw_ rd q⟩
  | str z =>
    cases rx
    obtain ⟨hl, q⟩ := q
    obtain ⟨d, e, q⟩ := QAt.get q
    cases e1 : atI z.cps.toList i with
    | none => rw [e1] at e; cases e
    | some c =>
      rw [e1] at e; cases e
      exact .inr (.inr ⟨_, _, _, rfl, rfl, hl, e1, kq.here rw_ (.str _) q⟩)
  | ref a =>
    cases rx
    unfold gIx at q
    dsimp only at q
    split at q
    · rename_i xs e0
      obtain ⟨vs, hv, r⟩ := rw_ _ _ e0
      obtain ⟨d, e, q⟩ := QAt.get q
      obtain ⟨v, e1, rd⟩ := r.at e
      exact .inl ⟨_, _, _, _, rfl, rfl, SqL.of hv, e1, kq.here rw_ rd q⟩
    · exact q.elim
  | _ => exact q.elim
end
section
variable {X : Cx} {e : Expr} {w : WE} {lo hi : Option Expr} {pos p2 : Pos}
abbrev WO := Ev → DH → (Option Int → DH → Prop) → QX → Prop
def tO (K : PySem.W.Frag) (W : WX) (w : WO) : TO := fun σ H Q => ∃ (env : Ev) (h : DH) (Qn : Option Int → DH → Prop) (Qx : QX), RS K H env σ ∧ RW K h H ∧ w env h Qn Qx ∧ (∀ o h' H', Pe H H' → RW K h' H' → Qn o h' → Q o H') ∧ KX K H Qx W σ
structure DOp (X : Cx) (e : Option Expr) (w : WO) : Prop where
  ok : ∀ W, Cok X W → PO X e (tO X.K W w)
theorem _root_.L2.PO.imp {X : Cx} {e : Option Expr} {t t' : TO} (p : PO X e t) (h : ∀ σ H Q, t' σ H Q → t σ H Q) : PO X e t' := ⟨fun pins s σ H Q I q => p.run pins s σ H Q I (h σ H Q q)⟩
def wNoP : WO := fun _ h Q _ => Q none h
def wPart (w : WE) : WO := fun env h Q Qx => w env h (fun d h1 => match d with
  | .int i => Q (some i) h1
  | _ => False) Qx
theorem do_none : DOp X none wNoP := ⟨fun W ck => po_none.imp fun σ H Q ⟨env, h, Qn, Qx, rs, rw_, q, kq, kx⟩ => kq none h H (.refl H) rw_ q⟩
theorem do_some (h : DE X e w) : DOp X (some e) (wPart w) := ⟨fun W ck => (po_some (h.ok W ck)).imp fun σ H Q ⟨env, h, Qn, Qx, rs, rw_, q, kq, kx⟩ =>
  ⟨env, h, _, Qx, rs, rw_, q, fun d h1 v H1 p1 r1 rd q1 => by
    cases d <;> try exact q1.elim
    exact ⟨_, rd.int_inv, kq _ _ _ p1 r1 q1⟩, kx⟩⟩
def cutD (xs : List D) (lo hi : Option Int) : List D := (xs.drop (HT.sIx xs.length 0 lo)).take (HT.sIx xs.length xs.length hi - HT.sIx xs.length 0 lo)
theorem RDs.cut {K : PySem.W.Frag} {H : Hp} {xs : List D} {vs : List V} (r : RDs K H xs vs) (lo hi : Option Int) : RDs K H (cutD xs lo hi) (cutV vs lo hi) := by
  unfold cutD cutV
  rw [← r.length]
  exact (r.drop _).take _
def gSl (x : D) (lo hi : Option Int) (h : DH) (Q : QD) : Prop := match x with
  | .tup xs => Q (.tup (cutD xs lo hi)) h
  | .sl xs => NewL h (cutD xs lo hi) Q
  | .str z => z.length ≤ sizeLine ∧ Q (.str (cutS z lo hi)) h
  | .ref a => match h a with
    | some (.lst xs) => NewL h (cutD xs lo hi) Q
    | _ => False
  | _ => False
def wSl (w : WE) (wl wh : WO) : WE := fun env h Q Qx => w env h (fun x h1 => wl env h1 (fun lo h2 => wh env h2 (fun hi h3 => gSl x lo hi h3 Q) Qx) Qx) Qx
theorem cut_whole {xs : List V} {lo hi : Option Int} (e : HT.sIx xs.length 0 lo = 0 ∧ HT.sIx xs.length xs.length hi = xs.length) : cutV xs lo hi = xs := by
  unfold cutV
  rw [e.1, e.2]
  simp
theorem cut_wholeD {xs : List D} {lo hi : Option Int} (e : HT.sIx xs.length 0 lo = 0 ∧ HT.sIx xs.length xs.length hi = xs.length) : cutD xs lo hi = xs := by
  unfold cutD
  rw [e.1, e.2]
  simp
theorem sl_ok {K : PySem.W.Frag} {H : Hp} {x : D} {lo hi : Option Int} {h : DH} {Qn : QD} {v : V} {Q : VK} (rd : RD K H x v) (rw_ : RW K h H) (q : gSl x lo hi h Qn) (kq : KQ K H Qn Q) :
    rSlL K v lo hi H Q ∨ rSlA K v lo hi H Q ∨ rSlS v lo hi H Q := by
  cases x with
  | tup xs =>
    obtain ⟨a, vs, rfl, t, r⟩ := rd.tup_inv
    refine .inr (.inl ⟨a, vs, rfl, SqT.of t, fun e => ?_, fun _ p hp => ?_⟩)
    · refine kq.here rw_ (.tup t r) ?_
      have z : Qn (.tup (cutD xs lo hi)) h := q
      rw [cut_wholeD (by rw [r.length]; exact e)] at z
      exact z
    · exact kq _ h _ _ (Pe.new hp) (rw_.beside hp) (.tup upd_same ((r.cut lo hi).mono (Pe.new hp))) q
  | sl xs =>
    obtain ⟨a, vs, rfl, t, r⟩ := rd.sl_inv
    exact .inl ⟨a, vs, rfl, t.seq, fun p hp => newL_ok (.refl H) rw_ (r.cut lo hi) q kq hp⟩
  | str z =>
    cases rd
    exact .inr (.inr ⟨z, rfl, q.1, kq.here rw_ (.str _) q.2⟩)
  | ref a =>
    cases rd
    unfold gSl at q
    dsimp only at q
    split at q
    · rename_i xs e
      obtain ⟨vs, hv, r⟩ := rw_ _ _ e
      exact .inl ⟨a, vs, rfl, SqL.of hv, fun p hp => newL_ok (.refl H) rw_ (r.cut lo hi) q kq hp⟩
    · exact q.elim
  | _ => exact q.elim
theorem de_sl {wl wh : WO} (he : DE X e w) (hl : DOp X lo wl) (hh : DOp X hi wh) : DE X (.Subscript e (.Slice lo hi none p2) pos) (wSl w wl wh) :=
  ⟨fun W ck => (pe_slice (sl_list.or (sl_tupA.or sl_str)) (he.ok W ck) (hl.ok W ck) (hh.ok W ck)).imp fun σ H Q ⟨env, h, Qn, Qx, rs, rw_, q, kq, kx⟩ =>
    ⟨env, h, _, Qx, rs, rw_, q, fun x h1 v H1 p1 r1 rd q1 => ⟨env, h1, _, Qx, rs.mono p1, r1, q1, fun lo h2 H2 p2 r2 q2 => ⟨env, h2, _, Qx, rs.mono (p1.trans p2), r2, q2, fun hi h3 H3 p3 r3 q3 =>
      sl_ok (rd.mono (p2.trans p3)) r3 q3 (kq.mono (p1.trans (p2.trans p3))), kx.mono (p1.trans p2)⟩, kx.mono p1⟩, kx⟩⟩
/-- xs[::-1] of a list -/
def gRevL (x : D) (h : DH) (Q : QD) : Prop := match x with
  | .sl xs => NewL h xs.reverse Q
  | .ref a => match h a with
    | some (.lst xs) => NewL h xs.reverse Q
    | _ => False
  | _ => False
def wRevL (w : WE) : WE := fun env h Q Qx => w env h (fun x h1 => gRevL x h1 Q) Qx
theorem de_revL {k : Nat} {p1 p2 p3 : Pos} (he : DE X e w) : DE X (.Subscript e (.Slice none none (some (.UnaryOp .USub (.Constant (.int 1) k p1) p2)) p3) pos) (wRevL w) :=
  ⟨fun W ck => (pe_revL (he.ok W ck)).imp fun σ H Q ⟨env, h, Qn, Qx, rs, rw_, q, kq, kx⟩ =>
    ⟨env, h, _, Qx, rs, rw_, q, fun x h1 v H1 p1 r1 rd q1 => by
      cases x with
      | sl xs =>
        obtain ⟨a, vs, rfl, t, r⟩ := rd.sl_inv
        exact ⟨a, vs, rfl, t.seq, fun p hp => newL_ok p1 r1 r.reverse q1 kq hp⟩
      | ref a =>
        cases rd
        unfold gRevL at q1
        dsimp only at q1
        split at q1
        · rename_i xs e
          obtain ⟨vs, hv, r⟩ := r1 _ _ e
          exact ⟨a, vs, rfl, SqL.of hv, fun p hp => newL_ok p1 r1 r.reverse q1 kq hp⟩
        · exact q1.elim
      | _ => exact q1.elim, kx⟩⟩
/-- -a -/
def wNeg (w : WE) : WE := fun env h Q Qx => w env h (fun d h1 => match d with
  | .int i => Q (.int (-i)) h1
  | _ => False) Qx
theorem de_neg (he : DE X e w) : DE X (.UnaryOp .USub e pos) (wNeg w) :=
  ⟨fun W ck => (pe_un un_neg (he.ok W ck)).imp fun σ H Q ⟨env, h, Qn, Qx, rs, rw_, q, kq, kx⟩ =>
    ⟨env, h, _, Qx, rs, rw_, q, fun x h1 v H1 p1 r1 rd q1 => by
      cases x <;> try exact q1.elim
      exact ⟨_, rd.int_inv, kq _ _ _ _ p1 r1 (.int _) q1⟩, kx⟩⟩
end
/-! ### a tuple times a small int, nought and one too -/
section
variable {a : Addr} {vs : Array Value} {m : Nat} {od : Option Addr} {os : Array (Option Value)} {k : Int} {tk : Tok}
theorem mul_same (hk : (decide (k < -(2 ^ 63)) || decide (k ≥ 2 ^ 63)) = false) (hs : (vs.isEmpty || k == 1) = true) :
    Meets (Builtin.«tuple.__mul__» ⟨[.ref a, .int k tk], []⟩) (fun _ R s => s.heap.get? a = some ⟨.type "tuple", od, .seq vs m, os⟩ ∧ R (.ok (.ret (Value.ref a))) s) :=
  .of_wp fun prog w A R s h => by
    obtain ⟨hp, g, d, t, oo⟩ := s
    obtain ⟨hl, h⟩ := h
    have f1 := AutoSeq1.idx_int
    wp_walk using wpAny_loadPart' hl
    refine wpAny_ite_false (decide_eq_false (by rw [hk]; decide)) ?_
    wp_walk using wpAny_loadPart' hl
    exact ⟨_, rfl, h⟩
theorem mul_none (hk : (decide (k < -(2 ^ 63)) || decide (k ≥ 2 ^ 63)) = false) (hs : (vs.isEmpty || k == 1) = false) (hz : (decide (k ≤ 0) || vs.isEmpty) = true) :
    Meets (Builtin.«tuple.__mul__» ⟨[.ref a, .int k tk], []⟩) (fun _ R s => s.heap.get? a = some ⟨.type "tuple", od, .seq vs m, os⟩ ∧ R (.ok (.ret (Value.ref s.heap.objs.size))) { s with heap := s.heap.push ⟨.type "tuple", none, .seq #[] 0, #[]⟩, toks := s.toks }) :=
  .of_wp fun prog w A R s h => by
    obtain ⟨hp, g, d, t, oo⟩ := s
    obtain ⟨hl, h⟩ := h
    have f1 := AutoSeq1.idx_int
    wp_walk using wpAny_loadPart' hl
    refine wpAny_ite_false (decide_eq_false (by rw [hk]; decide)) ?_
    wp_walk using wpAny_loadPart' hl
    exact ⟨_, rfl, h⟩
def rMulT (K : PySem.W.Frag) : R2 := fun x y H Q => ∃ a k xs, x = .ref a ∧ y = .int k ∧ SqT K H a xs ∧ 0 ≤ k ∧ k ≤ 1000 ∧ xs.length ≤ 1000 ∧
  ((xs = [] ∨ k = 1) → Q (.ref a) H) ∧ (xs ≠ [] → k = 0 → ∀ p, H p = none → Q (.ref p) (upd H p (.tup []))) ∧ (xs ≠ [] → 2 ≤ k → ∀ p, H p = none → Q (.ref p) (upd H p (.tup (List.replicate k.toNat xs).flatten)))
end
section
variable {X : Cx}
theorem op_mulT : OpR X (binaryOp .Mult) (rMulT X.K) := by
  intro pins s σ H x y v u Q I rx ry h
  obtain ⟨a, k, xs, ex, ey, hT, h0, h1, hz, q1, q2, q3⟩ := h
  by_cases c : xs ≠ [] ∧ 2 ≤ k
  · exact op_repT pins s σ H x y v u Q I rx ry ⟨a, k, xs, ex, ey, hT, c.1, c.2, h1, hz, q3 c.1 c.2⟩
  subst ex ey
  cases rx
  obtain ⟨t, rfl⟩ := ry
  obtain ⟨its, r, ⟨⟨cls, od, data, os⟩, ho, hc, n, hd⟩, hs⟩ := I.tuple hT
  simp only at hc hd
  subst hc hd
  have len := r.length
  have b1 : (decide (k < -(2 ^ 63)) || decide (k ≥ 2 ^ 63)) = false := by
    rw [decide_eq_false (by omega), decide_eq_false (by omega)] <;> rfl
  by_cases e : xs = [] ∨ k = 1
  · have b2 : (its.toArray.isEmpty || k == 1) = true := by
      rcases e with e | e
      · subst e; cases r; rfl
      · subst e; simp
    refine wpAny_binaryOp_repeat_ref
      (T := "tuple") (U := "int") (by decide)
      ⟨_, ho, rfl⟩ (fun z => typeIs_int z k t)
      noFill_tuple_mul
      F.fills_int_mul F.slot_int_rmul
      repeat_tuple F.slot_int_index.lookup
      (call_meets F.slot_int_rmul (typeIs_int s k t)
        F.entry_int_rmul (F.args_int_rmul_2 _ _)
        (int_rmul_tuple k t a its.toArray n od os)
        ⟨ho, rfl, ⟨_, ho, rfl⟩, call_meets F.slot_tuple_mul ⟨_, ho, rfl⟩
          F.entry_tuple_mul (F.args_tuple_mul_2 _ _)
          (mul_same b1 b2) ⟨ho, ?_⟩⟩)
    exact ⟨.ref a, H, I, rfl, q1 e⟩
  · have hn : xs ≠ [] := fun z => e (.inl z)
    have hk : k = 0 := by
      have : ¬ k = 1 := fun z => e (.inr z)
      have : ¬ 2 ≤ k := fun z => c ⟨hn, z⟩
      omega
    have hi : its.toArray.isEmpty = false := by
      cases its with
      | nil => cases r; exact absurd rfl hn
      | cons a b => rfl
    have b2 : (its.toArray.isEmpty || k == 1) = false := by rw [hi, hk]; rfl
    have b3 : (decide (k ≤ 0) || its.toArray.isEmpty) = true := by rw [hk]; rfl
    refine wpAny_binaryOp_repeat_ref
      (T := "tuple") (U := "int") (by decide)
      ⟨_, ho, rfl⟩ (fun z => typeIs_int z k t)
      noFill_tuple_mul
      F.fills_int_mul F.slot_int_rmul
      repeat_tuple F.slot_int_index.lookup
      (call_meets F.slot_int_rmul (typeIs_int s k t)
        F.entry_int_rmul (F.args_int_rmul_2 _ _)
        (int_rmul_tuple k t a its.toArray n od os)
        ⟨ho, rfl, ⟨_, ho, rfl⟩, call_meets F.slot_tuple_mul ⟨_, ho, rfl⟩
          F.entry_tuple_mul (F.args_tuple_mul_2 _ _)
          (mul_none b1 b2 b3) ⟨ho, ?_⟩⟩)
    refine ⟨.ref s.heap.objs.size, _, I.laid (t' := s.toks) (o := .tup []) (fun b ob z => Heap.get?_push_of_some _ z) (Nat.le_refl _) ?_, rfl, q2 hn hk _ (I.hok.fresh (Nat.le_refl _))⟩
    exact ⟨Nat.zero_le _, [], .nil, IsTup.new _ _⟩
end
/-- a product: of two ints, of a tuple and a small int -/
def gTimes : G2 := fun x y h Q => match x, y with
  | .int i, .int j => CMul i j ∧ Q (.int (i * j)) h
  | .tup xs, .int k => (0 ≤ k ∧ k ≤ 1000 ∧ xs.length ≤ 1000) ∧ Q (.tup (List.replicate k.toNat xs).flatten) h
  | _, _ => False
theorem RDs.rep {K : PySem.W.Frag} {H : Hp} {ds : List D} {vs : List V} (r : RDs K H ds vs) : ∀ n : Nat, RDs K H (List.replicate n ds).flatten (List.replicate n vs).flatten
  | 0 => .nil
  | n + 1 => by
    rw [List.replicate_succ, List.replicate_succ, List.flatten_cons, List.flatten_cons]
    exact r.append (RDs.rep r n)
theorem o_times {X : Cx} : Op2 X (binaryOp .Mult) gTimes := by
  refine ⟨_, op_mul.or op_mulT, ?_⟩
  intro x y h Qn H vx vy Q rx ry rw_ q kq
  cases x with
  | int i =>
    cases y <;> try exact q.elim
    cases rx; cases ry
    exact .inl ⟨_, _, rfl, rfl, q.1, kq.here rw_ (.int _) q.2⟩
  | tup xs =>
    cases y <;> try exact q.elim
    rename_i k
    cases ry
    obtain ⟨a, vs, rfl, ta, ra⟩ := rx.tup_inv
    obtain ⟨⟨h0, h1, hz⟩, q⟩ := q
    refine .inr ⟨a, k, vs, rfl, rfl, SqT.of ta, h0, h1, by rw [← ra.length]; exact hz, fun e => ?_, fun e1 e2 p hp => ?_, fun e1 e2 p hp => ?_⟩
    · refine kq.here rw_ (.tup ta ra) ?_
      rcases e with e | e
      · subst e; cases ra
        have z : (List.replicate k.toNat ([] : List D)).flatten = [] := by simp
        rw [z] at q; exact q
      · subst e
        have z : (List.replicate (1 : Int).toNat xs).flatten = xs := by
          show (List.replicate 1 xs).flatten = xs
          simp
        rw [z] at q; exact q
    · subst e2
      exact kq _ h _ _ (Pe.new hp) (rw_.beside hp) (.tup upd_same .nil) q
    · exact kq _ h _ _ (Pe.new hp) (rw_.beside hp) (.tup upd_same ((ra.rep _).mono (Pe.new hp))) q
  | _ => exact q.elim
end DL
namespace DL
open PySem PySem.Spec PyProof.Rows L2
/-! ### built-ins by name -/
abbrev GC := List D → DH → QD → Prop
def SimC (K : PySem.W.Frag) (g : GC) (r : List V → Hp → VK → Prop) : Prop := ∀ xs h Qn H vs Q, RDs K H xs vs → RW K h H → g xs h Qn → KQ K H Qn Q → r vs H Q
def OpC (X : Cx) (f : Value) (g : GC) : Prop := ∃ r, CallR X f r ∧ SimC X.K g r
def wCB (g : GC) (ws : WA) : WE := fun env h Q Qx => ws env h (fun ds h1 => g ds h1 Q) Qx
section
variable {X : Cx} {x : Str} {p pos : Pos} {e : Expr} {es : List Expr} {ws : WA} {id T : String} {g : GC}
theorem de_callB (o : OpC X (.builtin id) g) (hg : Gl X x) (hm : X.mg x = none) (hv : bootBuiltins x = some (.builtin id)) (ha : DA X (e :: es) ws) (hn : x ≠ "__name__" := by decide) (hdb : (x == ("__debug__" : Str)) = false := by decide)
    (he : starEach (e :: es) X.env = (false, eval e X.env) :: starEach es X.env := by rfl) (hpl : (backTo pos (starEach es X.env)).any (·.1) = false := by rfl) : DE X (.Call (.Name x p) (e :: es) [] pos) (wCB g ws) := by
  obtain ⟨r, hr, s⟩ := o
  exact ⟨fun W ck => (pe_callB hr hg hm hv (ha.ok W ck) hn hdb he hpl).imp fun σ H Q ⟨env, h, Qn, Qx, rs, rw_, q, kq, kx⟩ =>
    ⟨env, h, _, Qx, rs, rw_, q, fun ds h1 vs H1 p1 r1 rds q1 => s ds h1 Qn H1 vs Q rds r1 q1 (kq.mono p1), kx⟩⟩
theorem de_callTy (o : OpC X (.type T) g) (hg : Gl X x) (hm : X.mg x = none) (hv : bootBuiltins x = some (.type T)) (ha : DA X (e :: es) ws) (hn : x ≠ "__name__" := by decide) (hdb : (x == ("__debug__" : Str)) = false := by decide)
    (he : starEach (e :: es) X.env = (false, eval e X.env) :: starEach es X.env := by rfl) (hpl : (backTo pos (starEach es X.env)).any (·.1) = false := by rfl) : DE X (.Call (.Name x p) (e :: es) [] pos) (wCB g ws) := by
  obtain ⟨r, hr, s⟩ := o
  exact ⟨fun W ck => (pe_callTy hr hg hm hv (ha.ok W ck) hn hdb he hpl).imp fun σ H Q ⟨env, h, Qn, Qx, rs, rw_, q, kq, kx⟩ =>
    ⟨env, h, _, Qx, rs, rw_, q, fun ds h1 vs H1 p1 r1 rds q1 => s ds h1 Qn H1 vs Q rds r1 q1 (kq.mono p1), kx⟩⟩
end
/-- the items of a list or tuple -/
def items (h : DH) : D → Option (List D)
  | .tup xs => some xs
  | .sl xs => some xs
  | .ref a => match h a with
    | some (.lst xs) => some xs
    | _ => none
  | _ => none
section
variable {X : Cx} {K : PySem.W.Frag} {H : Hp} {h : DH}
theorem items_ok {d : D} {v : V} {xs : List D} (rd : RD K H d v) (rw_ : RW K h H) (e : items h d = some xs) : ∃ a vs, v = .ref a ∧ (SqL K H a vs ∨ SqT K H a vs) ∧ RDs K H xs vs := by
  cases d with
  | tup ys =>
    cases e
    obtain ⟨a, vs, rfl, t, r⟩ := rd.tup_inv
    exact ⟨a, vs, rfl, .inr (SqT.of t), r⟩
  | sl ys =>
    cases e
    obtain ⟨a, vs, rfl, t, r⟩ := rd.sl_inv
    exact ⟨a, vs, rfl, .inl t.seq, r⟩
  | ref a =>
    cases rd
    unfold items at e
    dsimp only at e
    split at e
    · rename_i ys e1
      cases e
      obtain ⟨vs, hv, r⟩ := rw_ _ _ e1
      exact ⟨a, vs, rfl, .inl (SqL.of hv), r⟩
    · cases e
  | _ => cases e
def One (P : D → Prop) : List D → Prop
  | [d] => P d
  | _ => False
theorem one_inv {P : D → Prop} {xs : List D} {vs : List V} (r : RDs K H xs vs) (q : One P xs) : ∃ d v, xs = [d] ∧ vs = [v] ∧ RD K H d v ∧ P d := by
  cases r with
  | nil => exact q.elim
  | cons rd t =>
    cases t with
    | nil => exact ⟨_, _, rfl, rfl, rd, q⟩
    | cons _ _ => exact q.elim
def LenQ (h : DH) (d : D) (k : Nat → Prop) : Prop := match d with
  | .str z => z.length ≤ sizeLine ∧ k z.length
  | d => match items h d with
    | some ys => k ys.length
    | none => False
def gLen : GC := fun xs h Q => One (fun d => LenQ h d fun n => Q (.int n) h) xs
theorem lenQ_ok {d : D} {v : V} {k : Nat → Prop} (rd : RD K H d v) (rw_ : RW K h H) (q : LenQ h d k) : ∃ n, LenV K v H n ∧ k n := by
  have gen : (match items h d with | some ys => k ys.length | none => False) → ∃ n, LenV K v H n ∧ k n := by
    intro q
    cases e : items h d with
    | none => rw [e] at q; exact q.elim
    | some ys =>
      rw [e] at q
      obtain ⟨a, vs, rfl, s, r⟩ := items_ok rd rw_ e
      refine ⟨vs.length, ?_, by rw [← r.length]; exact q⟩
      rcases s with s | s
      · exact .inl ⟨vs, s, rfl⟩
      · exact .inr ⟨vs, s, rfl⟩
  cases d with
  | str z => cases rd; exact ⟨z.length, ⟨q.1, rfl⟩, q.2⟩
  | _ => exact gen q
theorem c_len : OpC X (.builtin "len") gLen := by
  refine ⟨_, call_len, ?_⟩
  intro xs h Qn H vs Q rds rw_ q kq
  obtain ⟨d, v, rfl, rfl, rd, q⟩ := one_inv rds q
  obtain ⟨n, l, q⟩ := lenQ_ok rd rw_ q
  exact ⟨v, n, rfl, l, kq.here rw_ (.int _) q⟩
def gAbs : GC := fun xs h Q => match xs with
  | [.int i] => Q (.int (if i < 0 then -i else i)) h
  | _ => False
def gIntC : GC := fun xs h Q => match xs with
  | [.int i] => Q (.int i) h
  | [.bl k] => Q (.int (if k then 1 else 0)) h
  | _ => False
theorem c_abs : OpC X (.builtin "abs") gAbs := by
  refine ⟨_, call_abs, ?_⟩
  intro xs h Qn H vs Q rds rw_ q kq
  unfold gAbs at q
  split at q
  · cases rds with
    | cons rd t => cases t; cases rd; exact ⟨_, rfl, kq.here rw_ (.int _) q⟩
  · exact q.elim
theorem c_int : OpC X (.type "int") gIntC := by
  refine ⟨_, call_int1, ?_⟩
  intro xs h Qn H vs Q rds rw_ q kq
  unfold gIntC at q
  split at q
  · cases rds with
    | cons rd t => cases t; cases rd; exact .inl ⟨_, rfl, kq.here rw_ (.int _) q⟩
  · cases rds with
    | cons rd t => cases t; cases rd; exact .inr ⟨_, rfl, kq.here rw_ (.int _) q⟩
  · exact q.elim
/-- a list's or tuple's items, given to k -/
def ItQ (h : DH) (d : D) (k : List D → Prop) : Prop := match items h d with
  | some ys => k ys
  | none => False
theorem ItQ.get {d : D} {k : List D → Prop} (q : ItQ h d k) : ∃ ys, items h d = some ys ∧ k ys := by
  unfold ItQ at q
  split at q
  · rename_i ys e; exact ⟨ys, e, q⟩
  · exact q.elim
def gListC : GC := fun xs h Q => One (fun d => ItQ h d fun ys => NewL h ys Q) xs
theorem c_list : OpC X (.type "list") gListC := by
  refine ⟨_, call_list_of, ?_⟩
  intro xs h Qn H vs Q rds rw_ q kq
  obtain ⟨d, v, rfl, rfl, rd, q⟩ := one_inv rds q
  obtain ⟨ys, e, q⟩ := q.get
  obtain ⟨a, vs, rfl, s, r⟩ := items_ok rd rw_ e
  exact ⟨a, vs, rfl, s, fun p hp => newL_ok (.refl H) rw_ r q kq hp⟩
def gTupC : GC := fun xs h Q => One (fun d => ItQ h d fun ys => Q (.tup ys) h) xs
theorem c_tuple : OpC X (.type "tuple") gTupC := by
  refine ⟨_, call_tuple_of, ?_⟩
  intro xs h Qn H vs Q rds rw_ q kq
  obtain ⟨d, v, rfl, rfl, rd, q⟩ := one_inv rds q
  obtain ⟨ys, e, q2⟩ := q.get
  cases d with
  | tup zs =>
    cases e
    obtain ⟨a, vs, rfl, t, r⟩ := rd.tup_inv
    exact ⟨a, vs, rfl, .inr ⟨SqT.of t, kq.here rw_ (.tup t r) q2⟩⟩
  | sl zs =>
    cases e
    obtain ⟨a, vs, rfl, t, r⟩ := rd.sl_inv
    exact ⟨a, vs, rfl, .inl ⟨t.seq, fun p hp => kq _ h _ _ (Pe.new hp) (rw_.beside hp) (.tup upd_same (r.mono (Pe.new hp))) q2⟩⟩
  | ref a =>
    cases rd
    unfold items at e
    dsimp only at e
    split at e
    · rename_i zs e1
      cases e
      obtain ⟨vs, hv, r⟩ := rw_ _ _ e1
      exact ⟨a, vs, rfl, .inl ⟨SqL.of hv, fun p hp => kq _ h _ _ (Pe.new hp) (rw_.beside hp) (.tup upd_same (r.mono (Pe.new hp))) q2⟩⟩
    · cases e
  | _ => cases e
/-- max of a tuple of ints -/
def maxI (n : Int) (ns : List Int) : Int := ns.foldl max n
theorem alike_ints (ns : List Int) : PySem.W.AlikeAll (ns.map PyData.int) := by
  constructor
  · intro x hx y hy
    obtain ⟨a, _, rfl⟩ := List.mem_map.mp hx
    obtain ⟨b, _, rfl⟩ := List.mem_map.mp hy
    rfl
  · intro x hx
    obtain ⟨a, _, rfl⟩ := List.mem_map.mp hx
    exact fun z => nomatch z
theorem depthAll_ints : ∀ ns : List Int, PyData.depthAll (ns.map PyData.int) = 0
  | [] => by simp [PyData.depthAll]
  | n :: ns => by
    have := depthAll_ints ns
    simp [PyData.depthAll, PyData.depth, this]
theorem readsAll_ints {hh : Heap} : ∀ {ns : List Int} {us : List Value}, Vals (ns.map V.int) us → ∃ as, ReadsAll hh us (ns.map PyData.int) as
  | [], _, .nil => ⟨_, .nil⟩
  | n :: ns, _, .cons r t => by
    obtain ⟨k, rfl⟩ := r
    obtain ⟨as, q⟩ := readsAll_ints (hh := hh) t
    exact ⟨_, .cons (.int n k) q⟩
theorem reads_int {hh : Heap} {v : Value} {i : Int} {as : List Addr} (r : Reads hh v (.int i) as) : ∃ t, v = .int i t := by
  cases r; exact ⟨_, rfl⟩
theorem call_maxT (hc : X.calm = true) (hu : X.A.units + 64 < cLine) : CallR X (.builtin "max") (fun xs H Q => ∃ a n ns, xs = [.ref a] ∧ SqT X.K H a ((n :: ns).map V.int) ∧ Q (.int (maxI n ns)) H) := by
  intro pins s σ H xs us Q I r hq
  obtain ⟨a, n, ns, rfl, ht, q⟩ := hq
  obtain ⟨u, rfl, ru⟩ := vals1 r
  cases (show u = Value.ref a from ru)
  obtain ⟨its, rv, ⟨o, e1, e2, k, e3⟩, hz⟩ := I.tuple ht
  obtain ⟨as, hr⟩ := readsAll_ints (hh := s.heap) rv
  have hr' : ReadsAll s.heap its.toArray.toList (PyData.int n :: ns.map PyData.int) as := by simpa using hr
  refine PySem.W.max_tuple_data (I.ok.hd hc) (show s.heap.IsTuple a its.toArray from ⟨o, e1, e2, k, e3⟩) hr' (by have := alike_ints (n :: ns); rwa [List.map_cons] at this)
    (by have z := depthAll_ints (n :: ns); rw [List.map_cons] at z; rw [z]; omega) fun i v h' tk bs _ hv hk => ?_
  rw [PySem.W.maxD_ints] at hv
  obtain ⟨t, rfl⟩ := reads_int hv
  exact ⟨.int _, H, I.kept (t' := tk) hk, ⟨t, rfl⟩, q⟩
/-- the ints of data -/
def intsOf : List D → Option (List Int)
  | [] => some []
  | .int i :: xs => (intsOf xs).map (i :: ·)
  | _ => none
theorem intsOf_map : ∀ ns : List Int, intsOf (ns.map D.int) = some ns
  | [] => rfl
  | n :: ns => by simp [intsOf, intsOf_map ns]
theorem intsOf_eq : ∀ {xs : List D} {ns : List Int}, intsOf xs = some ns → xs = ns.map D.int
  | [], _, e => by cases e; rfl
  | .int i :: xs, ns, e => by
    simp only [intsOf, Option.map_eq_some_iff] at e
    obtain ⟨ms, e1, rfl⟩ := e
    rw [intsOf_eq e1]; rfl
  | .non :: _, _, e => by cases e
  | .bl _ :: _, _, e => by cases e
  | .str _ :: _, _, e => by cases e
  | .tup _ :: _, _, e => by cases e
  | .sl _ :: _, _, e => by cases e
  | .ref _ :: _, _, e => by cases e
def gMaxT : GC := fun xs h Q => match xs with
  | [.tup ys] => match intsOf ys with
    | some (n :: ns) => Q (.int (maxI n ns)) h
    | _ => False
  | _ => False
theorem c_maxT (hu : X.A.units + 64 < cLine) (hc : X.calm = true := by rfl) : OpC X (.builtin "max") gMaxT := by
  refine ⟨_, call_maxT hc hu, ?_⟩
  intro xs h Qn H vs Q rds rw_ q kq
  unfold gMaxT at q
  split at q
  · split at q
    · rename_i ys n ns e
      have e' := intsOf_eq e
      subst e'
      cases rds with
      | cons rd t =>
        cases t
        obtain ⟨a, vs, rfl, t, r⟩ := rd.tup_inv
        have e2 := r.ints_inv
        subst e2
        exact ⟨a, n, ns, rfl, SqT.of t, kq.here rw_ (.int _) q⟩
    · exact q.elim
  · exact q.elim
/-- all of a list of truth values -/
def blsOf : List D → Option (List Bool)
  | [] => some []
  | .bl i :: xs => (blsOf xs).map (i :: ·)
  | _ => none
theorem blsOf_map : ∀ ns : List Bool, blsOf (ns.map D.bl) = some ns
  | [] => rfl
  | n :: ns => by simp [blsOf, blsOf_map ns]
theorem blsOf_eq : ∀ {xs : List D} {ns : List Bool}, blsOf xs = some ns → xs = ns.map D.bl
  | [], _, e => by cases e; rfl
  | .bl i :: xs, ns, e => by
    simp only [blsOf, Option.map_eq_some_iff] at e
    obtain ⟨ms, e1, rfl⟩ := e
    rw [blsOf_eq e1]; rfl
  | .non :: _, _, e => by cases e
  | .int _ :: _, _, e => by cases e
  | .str _ :: _, _, e => by cases e
  | .tup _ :: _, _, e => by cases e
  | .sl _ :: _, _, e => by cases e
  | .ref _ :: _, _, e => by cases e
def gAllL (f : List Bool → Bool) : GC := fun xs h Q => match xs with
  | [.ref a] => match h a with
    | some (.lst ys) => match blsOf ys with
      | some bs => Q (.bl (f bs)) h
      | none => False
    | _ => False
  | _ => False
theorem sim_allL {f : List Bool → Bool} {r : List V → Hp → VK → Prop} (hr : ∀ a bs H Q, SqL K H a (bs.map V.bl) → Q (.bl (f bs)) H → r [.ref a] H Q) : SimC K (gAllL f) r := by
  intro xs h Qn H vs Q rds rw_ q kq
  unfold gAllL at q
  split at q
  · split at q
    · rename_i ys e1
      split at q
      · rename_i bs e2
        have e' := blsOf_eq e2
        subst e'
        cases rds with
        | cons rd t =>
          cases t; cases rd
          obtain ⟨vs, hv, r⟩ := rw_ _ _ e1
          have e3 := r.bls_inv
          subst e3
          exact hr _ _ _ _ (SqL.of hv) (kq.here rw_ (.bl _) q)
      · exact q.elim
    · exact q.elim
  · exact q.elim
theorem c_all (hc : X.calm = true := by rfl) : OpC X (.builtin "all") (gAllL fun bs => bs.all id) := ⟨_, cr_all hc, sim_allL fun a bs H Q s q => ⟨a, bs, rfl, s, q⟩⟩
theorem c_any (hc : X.calm = true := by rfl) : OpC X (.builtin "any") (gAllL fun bs => bs.any id) := ⟨_, cr_any hc, sim_allL fun a bs H Q s q => ⟨a, bs, rfl, s, q⟩⟩
/-! isinstance against a built-in class -/
def tyD (h : DH) : D → Option String
  | .non => some "NoneType"
  | .bl _ => some "bool"
  | .int _ => some "int"
  | .str _ => some "str"
  | .tup _ => some "tuple"
  | .sl _ => some "list"
  | .ref a => match h a with
    | some (.lst _) => some "list"
    | some (.dK _) => some "dict"
    | some (.dT _) => some "dict"
    | _ => none
theorem tyD_ok {d : D} {v : V} {T : String} (rd : RD K H d v) (rw_ : RW K h H) (e : tyD h d = some T) : TyX K H v (.type T) := by
  cases d with
  | non => cases e; cases rd; exact .base .non
  | bl b => cases e; cases rd; exact .base (.bl b)
  | int b => cases e; cases rd; exact .base (.int b)
  | str b => cases e; cases rd; exact .base (.str b)
  | tup ys =>
    cases e
    obtain ⟨a, vs, rfl, t, r⟩ := rd.tup_inv
    exact .base (.tup t)
  | sl ys =>
    cases e
    obtain ⟨a, vs, rfl, t, r⟩ := rd.sl_inv
    rcases t with ⟨o, t⟩ | ⟨o, its, n, hk, hc, _⟩
    · exact .base (.frz t)
    · exact .kList hk hc
  | ref a =>
    cases rd
    unfold tyD at e
    dsimp only at e
    split at e
    · rename_i xs e1
      cases e
      obtain ⟨vs, hv, r⟩ := rw_ _ _ e1
      exact .base (.lst hv)
    · rename_i xs e1
      cases e
      obtain ⟨vs, hv, r⟩ := rw_ _ _ e1
      exact .base (.dK hv)
    · rename_i xs e1
      cases e
      obtain ⟨vs, hv, r⟩ := rw_ _ _ e1
      exact .base (.dT hv)
    · cases e
/-- which classes of the five take which: bool is an int -/
def isiB (T : String) (c : String) : Bool := (T == c) || (T == "bool" && c == "int")
end
section
variable {X : Cx} {e : Expr} {w : WE} {p p2 pos : Pos} {c : Str} {T : String}
def TyQ (h : DH) (d : D) (k : String → Prop) : Prop := match tyD h d with
  | some t => k t
  | none => False
theorem TyQ.get {h : DH} {d : D} {k : String → Prop} (q : TyQ h d k) : ∃ t, tyD h d = some t ∧ k t := by
  unfold TyQ at q
  split at q
  · rename_i t e; exact ⟨t, e, q⟩
  · exact q.elim
def wIsi (w : WE) (T : String) : WE := fun env h Q Qx => w env h (fun d h1 => TyQ h1 d fun t => Q (.bl (isiB t T)) h1) Qx
def kT : List String := ["NoneType", "bool", "int", "str", "tuple", "list", "dict"]
theorem tyD_in {h : DH} {d : D} {t : String} (e : tyD h d = some t) : t ∈ kT := by
  cases d <;> first
    | (cases e; decide)
    | (unfold tyD at e; dsimp only at e; split at e <;> first | (cases e; decide) | cases e)
/-- isinstance(e, T) -/
theorem de_isi (hg : Gl X "isinstance") (hm : X.mg "isinstance" = none) (hgc : Gl X c) (hmc : X.mg c = none) (hvc : bootBuiltins c = some (.type T)) (ha : DE X e w)
    (hk : kT.all (fun t => kitB t T == some (isiB t T)) = true := by decide +kernel) (hnc : c ≠ "__name__" := by decide) (hdc : (c == ("__debug__" : Str)) = false := by decide)
    (h1 : starEach [e, .Name c p2] X.env = (false, eval e X.env) :: starEach [.Name c p2] X.env := by rfl) (h2 : starEach [.Name c p2] X.env = (false, eval (.Name c p2) X.env) :: starEach [] X.env := by rfl)
    (hpl : (backTo pos (starEach [.Name c p2] X.env)).any (·.1) = false := by rfl) : DE X (.Call (.Name "isinstance" p) [e, .Name c p2] [] pos) (wIsi w T) :=
  ⟨fun W ck => (pe_callB call_isi hg hm (by decide +kernel) (pa_cons (ha.ok W ck) (pa_cons (pe_bltn (v := .ty T) hgc hmc hvc rfl hnc hdc) pa_nil h2) h1) (by decide) (by decide) h1 hpl).imp fun σ H Q ⟨env, h, Qn, Qx, rs, rw_, q, kq, kx⟩ =>
    ⟨env, h, _, Qx, rs, rw_, q, fun d h1 v H1 p1 r1 rd q1 => by
      obtain ⟨t, et, q1⟩ := q1.get
      exact ⟨v, .ty T, .type t, .type T, isiB t T, rfl, .ty T, tyD_ok rd r1 et, kit_ty (by have z := List.all_eq_true.mp hk t (tyD_in et); exact eq_of_beq z), kq _ h1 _ _ p1 r1 (.bl _) q1⟩, kx⟩⟩
end
end DL
namespace DL
open PySem PySem.Spec PyProof.Rows L2
/-! ### what a def is worth -/
abbrev WF := List D → DH → QD → QX → Prop
def KE (K : PySem.W.Frag) (H : Hp) (Qx : QX) (E : XK) : Prop := ∀ x h' c d H', Pe H H' → RW K h' H' → RX K H' x c d → Qx x h' → E c d H'
def spD (K : PySem.W.Frag) (n : Nat) (wf : WF) : Sp := fun vs H Q E => vs.length = n ∧ ∃ ds h Qn Qx, RDs K H ds vs ∧ RW K h H ∧ wf ds h Qn Qx ∧ KQ K H Qn Q ∧ KE K H Qx E
/-- a def of the text by its worth -/
abbrev FnD (P : Program) (w : World) (K : PySem.W.Frag) (mg : Str → Option Value) (base : Heap) (k : Nat) (f : Addr) (fd : FuncData) (ps : List Str) (wf : WF) : Prop := FnOk P w K mg base (L2.CX P w) k f fd ps (spD K ps.length wf)
section
variable {X : Cx} {k : Nat} {f C : Addr} {fd : FuncData} {ps : List Str} {wf : WF} {x m : Str} {p pos apos : Pos} {e o : Expr} {es : List Expr} {wo : WE} {ws : WA}
def wCall (wf : WF) (ws : WA) : WE := fun env h Q Qx => ws env h (fun ds h1 => wf ds h1 Q Qx) Qx
theorem spD_of {K : PySem.W.Frag} {H H1 : Hp} {n : Nat} {ds : List D} {h1 : DH} {vs : List V} {Qn : QD} {Qx : QX} {Q : VK} {W : WX} {σ : L2.St} (hl : vs.length = n) (p1 : Pe H H1) (rds : RDs K H1 ds vs) (r1 : RW K h1 H1) (q : wf ds h1 Qn Qx) (kq : KQ K H Qn Q) (kx : KX K H Qx W σ) :
    spD K n wf vs H1 Q (L2.WE W σ) := ⟨hl, ds, h1, Qn, Qx, rds, r1, q, kq.mono p1, fun x h' c d H' p r rx qx => kx x h' c d H' (p1.trans p) r rx qx⟩
/-- arity: the worth speaks of so many arguments alone -/
def Ar (n : Nat) (wf : WF) : Prop := ∀ ds h Q Qx, wf ds h Q Qx → ds.length = n
theorem de_call (F : FnD X.prog X.w X.K X.mg X.base k f fd ps wf) (ar : Ar ps.length wf) (hr : Room k X.A) (hg : Gl X x) (hm : X.mg x = some (.ref f)) (hk : PySem.W.keepIn X.K (.ref f) = true) (hb : Binds X.K fd ps [])
    (ha : DA X (e :: es) ws) (hdb : (x == ("__debug__" : Str)) = false := by decide) (he : starEach (e :: es) X.env = (false, eval e X.env) :: starEach es X.env := by rfl) (hpl : (backTo pos (starEach es X.env)).any (·.1) = false := by rfl) :
    DE X (.Call (.Name x p) (e :: es) [] pos) (wCall wf ws) :=
  ⟨fun W ck => (pe_callS F hr hg hm hk hb (fun σ => passAt ck.tk σ) (ha.ok W ck) hdb he hpl).imp fun σ H Q ⟨env, h, Qn, Qx, rs, rw_, q, kq, kx⟩ =>
    ⟨env, h, _, Qx, rs, rw_, q, fun ds h1 vs H1 p1 r1 rds q1 => spD_of (by rw [← rds.length]; exact ar _ _ _ _ q1) p1 rds r1 q1 kq kx, kx⟩⟩
/-- fields of an instance, by name -/
def fldQ (h : DH) (d : D) (m : Str) (k : D → Prop) : Prop := match d with
  | .ref a => match h a with
    | some (.ins C fs) => match fs.lookup m with
      | some v => k v
      | none => False
    | _ => False
  | _ => False
theorem fldQ.get {h : DH} {d : D} {m : Str} {k : D → Prop} (q : fldQ h d m k) : ∃ a C fs v, d = .ref a ∧ h a = some (.ins C fs) ∧ fs.lookup m = some v ∧ k v := by
  unfold fldQ at q
  split at q
  · rename_i a
    split at q
    · rename_i C fs e
      split at q
      · rename_i v e2; exact ⟨a, C, fs, v, rfl, e, e2, q⟩
      · exact q.elim
    · exact q.elim
  · exact q.elim
theorem look_rel {K : PySem.W.Frag} {H : Hp} {m : Str} : ∀ {fs : List (Str × D)} {vs : List (Str × V)}, vs.map (·.1) = fs.map (·.1) → RDs K H (fs.map (·.2)) (vs.map (·.2)) →
    (∀ d, fs.lookup m = some d → ∃ v, vs.lookup m = some v ∧ RD K H d v) ∧ (fs.lookup m = none → vs.lookup m = none)
  | [], [], _, _ => ⟨fun _ e => (nomatch e), fun _ => rfl⟩
  | [], _ :: _, e, _ => by cases e
  | _ :: _, [], e, _ => by cases e
  | (n, d) :: fs, (n', v) :: vs, e, r => by
    obtain ⟨e1, e2⟩ := List.cons.inj (show n' :: vs.map (·.1) = n :: fs.map (·.1) from e)
    subst e1
    cases r with
    | cons r1 r2 =>
      obtain ⟨i1, i2⟩ := look_rel (m := m) e2 r2
      by_cases q : m == n'
      · refine ⟨fun d' e' => ?_, fun e' => ?_⟩
        · simp only [List.lookup, q] at e' ⊢
          cases e'
          exact ⟨v, rfl, r1⟩
        · simp only [List.lookup, q] at e'; cases e'
      · have q' : (m == n') = false := by simpa using q
        refine ⟨fun d' e' => ?_, fun e' => ?_⟩
        · simp only [List.lookup, q'] at e' ⊢
          exact i1 d' e'
        · simp only [List.lookup, q'] at e' ⊢
          exact i2 e'
/-- e.f: which classes' instances may come (Cs), none of which holds f itself -/
def wFld (Cs : List Addr) (w : WE) (m : Str) : WE := fun env h Q Qx => w env h (fun d h1 => fldQ h1 d m (fun v => Q v h1) ∧ ∀ a C fs, d = .ref a → h1 a = some (.ins C fs) → C ∈ Cs) Qx
structure ClsD (K : PySem.W.Frag) (f : Str) (Cs : List Addr) : Prop where
  ok : ∀ C ∈ Cs, Cls K C ∧ NoAttr K C f
theorem ClsD.one {K : PySem.W.Frag} {f : Str} {C : Addr} (c : Cls K C) (n : NoAttr K C f) : ClsD K f [C] := ⟨fun C' hC => by rw [List.mem_singleton.mp hC]; exact ⟨c, n⟩⟩
theorem de_fld {Cs : List Addr} (he : DE X e wo) (c : ClsD X.K m Cs) (hb : attributeBase e m X.env (eval e X.env) = eval e X.env := by rfl) : DE X (.Attribute e m pos) (wFld Cs wo m) :=
  ⟨fun W ck => (pe_fld (he.ok W ck) hb).imp fun σ H Q ⟨env, h, Qn, Qx, rs, rw_, q, kq, kx⟩ =>
    ⟨env, h, _, Qx, rs, rw_, q, fun d h1 v H1 p1 r1 rd ⟨q1, q2⟩ => by
      obtain ⟨a, C, fs, z, rfl, e1, e2, q1⟩ := q1.get
      cases rd
      obtain ⟨dx, vs, hv, hn, rr⟩ := r1 _ _ e1
      obtain ⟨zv, hz, rz⟩ := (look_rel (m := m) hn rr).1 z e2
      obtain ⟨c1, c2⟩ := c.ok C (q2 a C fs rfl e1)
      exact ⟨a, C, dx, vs, zv, rfl, hv, c1, c2, hz, kq _ _ _ _ p1 r1 rz q1⟩, kx⟩⟩
/-- the receiver of a method: an instance of C without an attribute of that name -/
def insQ (h : DH) (d : D) (C : Addr) (m : Str) : Prop := ∃ a fs, d = .ref a ∧ h a = some (.ins C fs) ∧ fs.lookup m = none
def wMeth (C : Addr) (m : Str) (wf : WF) (wo : WE) (ws : WA) : WE := fun env h Q Qx => wo env h (fun d h1 => insQ h1 d C m ∧ ws env h1 (fun ds h2 => wf (d :: ds) h2 Q Qx) Qx) Qx
def tMethAt (C : Addr) (m : Str) (sp : Sp) (E : L2.St → XK) (ta : TE) (t : TA) : TE := fun σ H Q => ta σ H fun x H1 => ∃ a dx fs, x = .ref a ∧ H1 a = some (.ins C dx fs) ∧ fs.lookup m = none ∧
  t σ H1 fun vs H2 => sp (x :: vs) H2 Q (E σ)
theorem pe_methAt {CX : CXT} {sp : Sp} {E : L2.St → XK} {ta : TE} {t : TA} {pl : Sem Bool} (he : PE X o ta) (c : Cls X.K C) (hm : Meth X.K C m f) (F : FnOk X.prog X.w X.K X.mg X.base CX k f fd ps sp) (hr : Room k X.A) (hb : Binds X.K fd ps [])
    (hx : ∀ σ, PassesAt CX X σ (E σ)) (ha : PA X (e :: es) t) (hst : starEach (e :: es) X.env = (false, eval e X.env) :: starEach es X.env) (hpl : (backTo pos (starEach es X.env)).any (·.1) = false)
    (ht : eval (.Call (.Attribute o m apos) (e :: es) [] pos) X.env = (do
      let ov ← eval o X.env; standAt apos.atName; let (f, first) ← holding [ov] (getMethod ov m pl)
      callWith pos f first (backTo pos (starEach (e :: es) X.env)) (backToKw pos (keywordEach [] X.env)))) :
    PE X (.Call (.Attribute o m apos) (e :: es) [] pos) (tMethAt C m sp E ta t) := ⟨fun pins s σ H Q I h => by
  refine PySem.W.methodCall_KW (pl := pl) (thn (he.run pins s σ H _ I h) fun u s1 hh => ?_) ht
  obtain ⟨x, H1, I1, rx, a, dx, fs, ex, ea, l, q⟩ := hh
  subst ex
  cases (show u = Value.ref a from rx)
  refine getmeth_ok I1 ea c hm l (PySem.W.callWith_K (first := [.ref a]) (h₀ := X.base) I.ok.mod.kin hm.kp (thn (ha.run pos pins s1 σ H1 _ I1 q) fun us s2 h2 => ?_) hst hpl)
  obtain ⟨vs, H2, I2, r, q2⟩ := h2
  refine ⟨I2.kIn, run_fnS (us := .ref a :: us) (vs := .ref a :: vs) F hr hb (hx σ) I2 (.cons rfl r) q2⟩⟩
theorem pe_methAt0 {CX : CXT} {sp : Sp} {E : L2.St → XK} {ta : TE} {pl : Sem Bool} (he : PE X o ta) (c : Cls X.K C) (hm : Meth X.K C m f) (F : FnOk X.prog X.w X.K X.mg X.base CX k f fd ps sp) (hr : Room k X.A) (hb : Binds X.K fd ps [])
    (hx : ∀ σ, PassesAt CX X σ (E σ))
    (ht : eval (.Call (.Attribute o m apos) [] [] pos) X.env = (do
      let ov ← eval o X.env; standAt apos.atName; let (f, first) ← holding [ov] (getMethod ov m pl)
      callWith pos f first (backTo pos (starEach [] X.env)) (backToKw pos (keywordEach [] X.env)))) :
    PE X (.Call (.Attribute o m apos) [] [] pos) (tMethAt C m sp E ta tNil) := ⟨fun pins s σ H Q I h => by
  refine PySem.W.methodCall_KW (pl := pl) (thn (he.run pins s σ H _ I h) fun u s1 hh => ?_) ht
  obtain ⟨x, H1, I1, rx, a, dx, fs, ex, ea, l, q⟩ := hh
  subst ex
  cases (show u = Value.ref a from rx)
  refine getmeth_ok I1 ea c hm l (PySem.W.callWith_K0 (first := [.ref a]) I1.kIn hm.kp ?_)
  exact run_fnS (us := [.ref a]) (vs := [.ref a]) F hr hb (hx σ) I1 (.cons rfl .nil) q⟩
theorem meth_ok {W : WX} {n : Nat} {ta : TE} {t : TA} {σ : L2.St} {H : Hp} {Q : VK} (ar : Ar n wf) (h : tE X.K W (wMeth C m wf wo ws) σ H Q) (h1 : ta = tE X.K W wo) (h2 : t = tA X.K W ws) : tMethAt C m (spD X.K n wf) (L2.WE W) ta t σ H Q := by
  obtain ⟨env, h, Qn, Qx, rs, rw_, q, kq, kx⟩ := h
  subst h1 h2
  refine ⟨env, h, _, Qx, rs, rw_, q, fun d h1 v H1 p1 r1 rd ⟨⟨a, fs, ed, e1, e2⟩, q1⟩ => ?_, kx⟩
  subst ed
  cases rd
  obtain ⟨dx, vs, hv, hn, rr⟩ := r1 _ _ e1
  exact ⟨a, dx, vs, rfl, hv, (look_rel (m := m) hn rr).2 e2, env, h1, _, Qx, rs.mono p1, r1, q1, fun ds h2 us H2 p2 r2 rds q2 =>
    spD_of (ds := .ref a :: ds) (vs := .ref a :: us) (by rw [List.length_cons, ← rds.length]; exact ar _ _ _ _ q2) (p1.trans p2) (.cons (.ref a) rds) r2 q2 kq kx, kx.mono p1⟩
theorem de_meth {pl : Sem Bool} (he : DE X o wo) (c : Cls X.K C) (hm : Meth X.K C m f) (F : FnD X.prog X.w X.K X.mg X.base k f fd ps wf) (ar : Ar ps.length wf) (hr : Room k X.A) (hb : Binds X.K fd ps []) (ha : DA X (e :: es) ws)
    (hst : starEach (e :: es) X.env = (false, eval e X.env) :: starEach es X.env := by rfl) (hpl : (backTo pos (starEach es X.env)).any (·.1) = false := by rfl)
    (ht : eval (.Call (.Attribute o m apos) (e :: es) [] pos) X.env = (do
      let ov ← eval o X.env; standAt apos.atName; let (f, first) ← holding [ov] (getMethod ov m pl)
      callWith pos f first (backTo pos (starEach (e :: es) X.env)) (backToKw pos (keywordEach [] X.env))) := by rfl) :
    DE X (.Call (.Attribute o m apos) (e :: es) [] pos) (wMeth C m wf wo ws) :=
  ⟨fun W ck => (pe_methAt (pl := pl) (he.ok W ck) c hm F hr hb (fun σ => passAt ck.tk σ) (ha.ok W ck) hst hpl ht).imp fun σ H Q h => meth_ok ar h rfl rfl⟩
theorem da_nil' {W : WX} (ck : Cok X W) : PA X [] (tA X.K W wNil) := da_nil.ok W ck
theorem de_meth0 {pl : Sem Bool} (he : DE X o wo) (c : Cls X.K C) (hm : Meth X.K C m f) (F : FnD X.prog X.w X.K X.mg X.base k f fd ps wf) (ar : Ar ps.length wf) (hr : Room k X.A) (hb : Binds X.K fd ps [])
    (ht : eval (.Call (.Attribute o m apos) [] [] pos) X.env = (do
      let ov ← eval o X.env; standAt apos.atName; let (f, first) ← holding [ov] (getMethod ov m pl)
      callWith pos f first (backTo pos (starEach [] X.env)) (backToKw pos (keywordEach [] X.env))) := by rfl) :
    DE X (.Call (.Attribute o m apos) [] [] pos) (wMeth C m wf wo wNil) :=
  ⟨fun W ck => (pe_methAt0 (pl := pl) (he.ok W ck) c hm F hr hb (fun σ => passAt ck.tk σ) ht).imp fun σ H Q ⟨env, h, Qn, Qx, rs, rw_, q, kq, kx⟩ => by
    refine ⟨env, h, _, Qx, rs, rw_, q, fun d h1 v H1 p1 r1 rd ⟨⟨a, fs, ed, e1, e2⟩, q1⟩ => ?_, kx⟩
    subst ed
    cases rd
    obtain ⟨dx, vs, hv, hn, rr⟩ := r1 _ _ e1
    exact ⟨a, dx, vs, rfl, hv, (look_rel (m := m) hn rr).2 e2, spD_of (ds := [.ref a]) (vs := [.ref a]) (by have z := ar _ _ _ _ q1; exact z) p1 (.cons (.ref a) .nil) r1 q1 kq kx⟩⟩
/-- C(..): a new instance, then its __init__ -/
def wMake (C : Addr) (wf : WF) (ws : WA) : WE := fun env h Q Qx => ws env h (fun ds h1 => ∀ p, h1 p = none → wf (.ref p :: ds) (dup h1 p (.ins C [])) (fun v h2 => v = .non ∧ Q (.ref p) h2) Qx) Qx
def tMakeAt (C : Addr) (sp : Sp) (E : L2.St → XK) (t : TA) : TE := fun σ H Q => t σ H fun vs H1 => ∀ x dx, H1 x = none → H1 dx = none → dx ≠ x →
  sp (.ref x :: vs) (upd (upd H1 dx (.own x)) x (.ins C dx [])) (fun v H2 => v = .non ∧ Q (.ref x) H2) (E σ)
theorem pe_makeAt {CX : CXT} {sp : Sp} {E : L2.St → XK} {t : TA} (M : Mk X.K C f) (F : FnOk X.prog X.w X.K X.mg X.base CX k f fd ps sp) (hr : Room (k + 1) X.A) (hg : Gl X x) (hm : X.mg x = some (.ref C)) (hb : Binds X.K fd ps [])
    (hx : ∀ (pins : List (Addr × Obj)) (σ : L2.St) (H H' : Hp) (s s' : Shared) (e : Value) (s'' : Shared), Inv X pins σ H s → Inv X pins σ H' s' → CX X.stack H' s' (E σ) e s'' → X.xe e s'')
    (ha : PA X (e :: es) t) (hdb : (x == ("__debug__" : Str)) = false) (he : starEach (e :: es) X.env = (false, eval e X.env) :: starEach es X.env) (hpl : (backTo pos (starEach es X.env)).any (·.1) = false) :
    PE X (.Call (.Name x p) (e :: es) [] pos) (tMakeAt C sp E t) := ⟨fun pins s σ H Q I h => by
  refine wpAny_Call_Name_kw (ld_glob I hg hm ?_ hdb)
  refine PySem.W.callWith_K (h₀ := X.base) I.ok.mod.kin M.kp (thn (ha.run pos pins s σ H _ I h) fun us s1 hh => ?_) he hpl
  obtain ⟨vs, H1, I1, r, q⟩ := hh
  refine ⟨I1.kIn, ?_⟩
  have hq := q (s1.heap.objs.size + 1) s1.heap.objs.size (I1.hok.fresh (Nat.le_succ _)) (I1.hok.fresh (Nat.le_refl _)) (Nat.ne_of_lt (Nat.lt_succ_self _))
  have I2 := Inv.made (C := C) I1
  have r2 : Vals (V.ref (s1.heap.objs.size + 1) :: vs) (Value.ref (s1.heap.objs.size + 1) :: us) := .cons rfl r
  have hl : (Value.ref (s1.heap.objs.size + 1) :: us ++ []).length = ps.length := by
    rw [List.append_nil, ← r2.length]
    exact F.len _ _ _ _ hq
  have hbb := hb _ (Value.ref (s1.heap.objs.size + 1) :: us) I2.kIn hl
  rw [List.append_nil] at hbb
  refine wpAny_call (make_map (f := f) I1.kIn M.makes M.init (beq_iff_eq.mp M.fn) (codeAny_mono (F.run _ X.stack _ _ ⟨Value.ref (s1.heap.objs.size + 1) :: us, []⟩ _ _ _ (E σ) (hr.make C us [])
    (I2.env0.make C us []) hbb r2 hq) fun r s' hq' => ?_))
  cases r with
  | error e => exact hx pins σ _ _ _ _ e s' I1 I2 hq'
  | ok fl =>
    cases fl with
    | ret u =>
      obtain ⟨v, H', I3, rv, ev, q3⟩ := I2.after hq'
      subst ev
      exact ⟨rv, ⟨V.ref (s1.heap.objs.size + 1), H', I3, rfl, q3⟩⟩
    | next => exact hq'.elim
    | brk => exact hq'.elim
    | cont => exact hq'.elim⟩
theorem Pe.made {H : Hp} {x dx : Addr} (hx : H x = none) (hd : H dx = none) (ne : dx ≠ x) : Pe H (upd (upd H dx (.own x)) x (.ins C dx [])) :=
  (Pe.new hd).trans (Pe.new (by rw [upd_ne ne.symm]; exact hx))
theorem RW.made {K : PySem.W.Frag} {h : DH} {H : Hp} (r : RW K h H) {x dx : Addr} (hx : H x = none) (hd : H dx = none) (ne : dx ≠ x) : RW K (dup h x (.ins C [])) (upd (upd H dx (.own x)) x (.ins C dx [])) :=
  (r.beside (u := .own x) hd).new (by rw [upd_ne ne.symm]; exact hx) (show RO K _ x (.ins C []) from ⟨dx, [], upd_same, rfl, .nil⟩)
theorem de_make (M : Mk X.K C f) (F : FnD X.prog X.w X.K X.mg X.base k f fd ps wf) (ar : Ar ps.length wf) (hr : Room (k + 1) X.A) (hg : Gl X x) (hm : X.mg x = some (.ref C)) (hb : Binds X.K fd ps [])
    (ha : DA X (e :: es) ws) (hdb : (x == ("__debug__" : Str)) = false := by decide) (he : starEach (e :: es) X.env = (false, eval e X.env) :: starEach es X.env := by rfl) (hpl : (backTo pos (starEach es X.env)).any (·.1) = false := by rfl) :
    DE X (.Call (.Name x p) (e :: es) [] pos) (wMake C wf ws) :=
  ⟨fun W ck => (pe_makeAt M F hr hg hm hb (E := L2.WE W) (fun pins σ H H' s s' e s'' _ I2 c => passAt ck.tk σ pins H' s' e s'' I2 c) (ha.ok W ck) hdb he hpl).imp fun σ H Q ⟨env, h, Qn, Qx, rs, rw_, q, kq, kx⟩ =>
    ⟨env, h, _, Qx, rs, rw_, q, fun ds h1 vs H1 p1 r1 rds q1 x dx hx hd ne => by
      have q2 := q1 x (r1.fresh hx)
      refine ⟨?_, .ref x :: ds, _, _, Qx, .cons (.ref x) (rds.mono (Pe.made hx hd ne)), r1.made hx hd ne, q2, fun d h' v H' p r rd ⟨e, q3⟩ => ?_, fun x h' c d H' p r rx qx => kx x h' c d H' ((p1.trans (Pe.made hx hd ne)).trans p) r rx qx⟩
      · rw [List.length_cons, ← rds.length]; exact ar _ _ _ _ q2
      · subst e
        exact ⟨rd.non_inv, kq _ _ _ _ ((p1.trans (Pe.made hx hd ne)).trans p) r (.ref x) q3⟩, kx⟩⟩
end
/-! ### methods of lists -/
section
variable {X : Cx} {o e : Expr} {es : List Expr} {wo : WE} {ws : WA} {apos cpos : Pos}
def lstQ (h : DH) (d : D) (k : Addr → List D → Prop) : Prop := match d with
  | .ref a => match h a with
    | some (.lst xs) => k a xs
    | _ => False
  | _ => False
theorem lstQ.get {h : DH} {d : D} {k : Addr → List D → Prop} (q : lstQ h d k) : ∃ a xs, d = .ref a ∧ h a = some (.lst xs) ∧ k a xs := by
  unfold lstQ at q
  split at q
  · rename_i a
    split at q
    · rename_i xs e; exact ⟨a, xs, rfl, e, q⟩
    · exact q.elim
  · exact q.elim
def wAppend (wo : WE) (ws : WA) : WE := fun env h Q Qx => wo env h (fun d h1 => lstQ h1 d (fun _ _ => True) ∧ ws env h1 (fun ds h2 => One (fun x => lstQ h2 d fun a xs => xs.length < sizeLine ∧ Q .non (dup h2 a (.lst (xs ++ [x])))) ds) Qx) Qx
theorem de_append (ho : DE X o wo) (ha : DA X (e :: es) ws) (hbase : attributeBase o "append" X.env (eval o X.env) = eval o X.env := by rfl)
    (hfew : ((backTo cpos (starEach (e :: es) X.env)).all (fun x => !x.1) && (backToKw cpos (keywordEach [] X.env)).all (fun x => x.1.isSome) && decide ((e :: es).length + ([] : List Keyword).length + (if ([] : List Keyword).isEmpty then 0 else 1) < 30)) = true := by rfl)
    (hline : (apos.endLine == cpos.line) = true := by rfl) (hs : starEach (e :: es) X.env = (false, eval e X.env) :: starEach es X.env := by rfl) (hpl : (backTo cpos (starEach es X.env)).any (·.1) = false := by rfl) :
    DE X (.Call (.Attribute o "append" apos) (e :: es) [] cpos) (wAppend wo ws) :=
  ⟨fun W ck => (pe_bm PySem.F.plainAttrs_list PySem.F.slot_list_append PySem.F.type_list_append mt_append (ho.ok W ck) (ha.ok W ck) hbase hfew hline hs hpl).imp fun σ H Q ⟨env, h, Qn, Qx, rs, rw_, q, kq, kx⟩ =>
    ⟨env, h, _, Qx, rs, rw_, q, fun d h1 v H1 p1 r1 rd ⟨q0, q1⟩ => by
      obtain ⟨a, xs, rfl, e1, _⟩ := q0.get
      cases rd
      obtain ⟨vs, hv, rr⟩ := r1 _ _ e1
      refine ⟨.inl ⟨rfl, _, SqL.of hv⟩, env, h1, _, Qx, rs.mono p1, r1, q1, fun ds h2 us H2 p2 r2 rds q2 => ?_, kx.mono p1⟩
      obtain ⟨y, yv, rfl, rfl, ry, q2⟩ := one_inv rds q2
      obtain ⟨a', ys, ea, e2, hz, q3⟩ := q2.get
      cases ea
      obtain ⟨vs2, hv2, rr2⟩ := r2 _ _ e2
      have w : Wr (H2 a) := by rw [hv2]; exact True.intro
      have pw : Pe H2 (upd H2 a (.lst (vs2 ++ [yv]))) := Pe.wr w
      exact ⟨a, vs2, yv, rfl, rfl, hv2, by rw [← rr2.length]; exact hz, kq _ _ _ _ ((p1.trans p2).trans pw) (r2.set w (show RO X.K _ a (.lst (ys ++ [y])) from ⟨_, upd_same, (rr2.append (.cons ry .nil)).mono pw⟩)) .non q3⟩, kx⟩⟩
def wPop (wo : WE) : WE := fun env h Q Qx => wo env h (fun d h1 => lstQ h1 d fun a xs => QAt (dup h1 a (.lst xs.dropLast)) Q xs[xs.length - 1]?) Qx
theorem de_pop (ho : DE X o wo) (hbase : attributeBase o "pop" X.env (eval o X.env) = eval o X.env := by rfl) (hline : (apos.endLine == cpos.line) = true := by rfl) : DE X (.Call (.Attribute o "pop" apos) [] [] cpos) (wPop wo) :=
  ⟨fun W ck => (pe_bm0 PySem.F.plainAttrs_list PySem.F.slot_list_pop PySem.F.type_list_pop mt_pop (ho.ok W ck) hbase hline).imp fun σ H Q ⟨env, h, Qn, Qx, rs, rw_, q, kq, kx⟩ =>
    ⟨env, h, _, Qx, rs, rw_, q, fun d h1 v H1 p1 r1 rd q1 => by
      obtain ⟨a, xs, rfl, e1, q1⟩ := q1.get
      obtain ⟨y, ey, q1⟩ := q1.get
      cases rd
      obtain ⟨vs, hv, rr⟩ := r1 _ _ e1
      obtain ⟨yv, hy, ry⟩ := rr.get ey
      have w : Wr (H1 a) := by rw [hv]; exact True.intro
      have pw : Pe H1 (upd H1 a (.lst vs.dropLast)) := Pe.wr w
      exact ⟨.inl ⟨rfl, _, SqL.of hv⟩, a, vs, yv, rfl, rfl, hv, by rw [← rr.length]; exact hy, kq _ _ _ _ (p1.trans pw) (r1.set w (show RO X.K _ a (.lst xs.dropLast) from ⟨_, upd_same, rr.dropLast.mono pw⟩)) (ry.mono pw) q1⟩, kx⟩⟩
end
end DL
namespace DL
open PySem PySem.Spec PyProof.Rows L2
/-! ### statements -/
section
variable {X : Cx} {st : Stmt} {rest body : List Stmt} {e o value c : Expr} {we wo : WE} {wt : WT} {w1 w2 : WS} {pos pos' : Pos} {x : Str}
def wNext : WS := fun E env h => E.nx env h
def wSeq (w1 w2 : WS) : WS := fun E env h => w1 { E with nx := fun e h' => w2 E e h' } env h
theorem dss_nil : DSs X [] wNext := ⟨fun W ck => pss_nil.imp fun D σ H ⟨E, env, h, rs, rw_, q, ks⟩ => ks.nx env h σ H (.refl H) rs rw_ q⟩
theorem dss_cons (h1 : DS X st w1) (h2 : DSs X rest w2) : DSs X (st :: rest) (wSeq w1 w2) := ⟨fun W ck => (pss_cons (h1.ok W ck) (h2.ok W ck)).imp fun D σ H ⟨E, env, h, rs, rw_, q, ks⟩ =>
  ⟨_, env, h, rs, rw_, q, ⟨fun e' h' s' H' p r1 r2 q' => ⟨E, e', h', r1, r2, q', ks.mono p⟩, ks.rt, ks.bk, ks.ct, ks.rx⟩⟩⟩
theorem dss_one (h1 : DS X st w1) : DSs X [st] w1 := ⟨fun W ck => pss_one (h1.ok W ck)⟩
def wPass : WS := fun E env h => E.nx env h
def wBrk : WS := fun E env h => E.bk env h
def wCnt : WS := fun E env h => E.ct env h
theorem ds_pass : DS X (.Pass pos) wPass := ⟨fun W ck => ps_pass.imp fun D σ H ⟨E, env, h, rs, rw_, q, ks⟩ => ks.nx env h σ H (.refl H) rs rw_ q⟩
theorem ds_break : DS X (.Break pos) wBrk := ⟨fun W ck => ps_break.imp fun D σ H ⟨E, env, h, rs, rw_, q, ks⟩ => ks.bk env h σ H (.refl H) rs rw_ q⟩
theorem ds_continue : DS X (.Continue pos) wCnt := ⟨fun W ck => ps_continue.imp fun D σ H ⟨E, env, h, rs, rw_, q, ks⟩ => ks.ct env h σ H (.refl H) rs rw_ q⟩
theorem KS.kx {K : PySem.W.Frag} {H : Hp} {E : En} {D : Ends} {W : WX} {env : Ev} {σ : L2.St} (k : KS K H E D W) (rs : RS K H env σ) : KX K H (fun x h' => E.rx x env h') W σ :=
  fun x h' c d H' p r rx q => k.rx x env h' σ c d H' p (rs.mono p) r rx q
def wExpr (we : WE) : WS := fun E env h => we env h (fun _ h1 => E.nx env h1) (fun x h1 => E.rx x env h1)
theorem ds_expr (he : DE X e we) (hs : swapsWith e none pos.line X.env = pure false := by rfl) : DS X (.Expr e pos) (wExpr we) := ⟨fun W ck => (ps_expr (he.ok W ck) hs).imp fun D σ H ⟨E, env, h, rs, rw_, q, ks⟩ =>
  ⟨env, h, _, _, rs, rw_, q, fun d h1 v H1 p1 r1 rd q1 => ks.nx env h1 σ H1 p1 (rs.mono p1) r1 q1, ks.kx rs⟩⟩
def wRet (we : WE) : WS := fun E env h => we env h E.rt (fun x h1 => E.rx x env h1)
theorem ds_ret (he : DE X e we) : DS X (.Return (some e) pos) (wRet we) := ⟨fun W ck => (ps_ret (he.ok W ck)).imp fun D σ H ⟨E, env, h, rs, rw_, q, ks⟩ => ⟨env, h, _, _, rs, rw_, q, ks.rt, ks.kx rs⟩⟩
def wRetN : WS := fun E env h => E.rt .non h
theorem ds_retN : DS X (.Return none pos) wRetN := ⟨fun W ck => ps_retN.imp fun D σ H ⟨E, env, h, rs, rw_, q, ks⟩ => ks.rt .non h .non H (.refl H) rw_ .non q⟩
def wIfS (wt : WT) (w1 w2 : WS) : WS := fun E env h => wt env h (fun b h1 => if b = true then w1 E env h1 else w2 E env h1) (fun x h1 => E.rx x env h1)
theorem ds_if {s1 s2 : List Stmt} (hc : DT X c wt) (h1 : DSs X s1 w1) (h2 : DSs X s2 w2) : DS X (.If c s1 s2 pos) (wIfS wt w1 w2) := ⟨fun W ck => (ps_if (hc.ok W ck) (h1.ok W ck) (h2.ok W ck)).imp fun D σ H ⟨E, env, h, rs, rw_, q, ks⟩ =>
  ⟨env, h, _, _, rs, rw_, q, fun b h' H' p r q' => by
    cases b with
    | true =>
      rw [if_pos rfl] at q' ⊢
      exact ⟨E, env, h', rs.mono p, r, q', ks.mono p⟩
    | false =>
      rw [if_neg Bool.false_ne_true] at q' ⊢
      exact ⟨E, env, h', rs.mono p, r, q', ks.mono p⟩, ks.kx rs⟩⟩
/-! ### targets -/
abbrev WG := D → Ev → DH → (Ev → DH → Prop) → Prop
abbrev WGs := List D → Ev → DH → (Ev → DH → Prop) → Prop
def KN (K : PySem.W.Frag) (H : Hp) (Qn : Ev → DH → Prop) (Q : L2.St → Hp → Prop) : Prop := ∀ e h s H', Pe H H' → RS K H' e s → RW K h H' → Qn e h → Q s H'
theorem KN.mono {K : PySem.W.Frag} {H H1 : Hp} {Qn : Ev → DH → Prop} {Q : L2.St → Hp → Prop} (k : KN K H Qn Q) (p : Pe H H1) : KN K H1 Qn Q := fun e h s H' q => k e h s H' (p.trans q)
def tG (K : PySem.W.Frag) (g : WG) : TG := fun v σ H Q => ∃ d env h Qn, RD K H d v ∧ RS K H env σ ∧ RW K h H ∧ g d env h Qn ∧ KN K H Qn Q
def tGs (K : PySem.W.Frag) (g : WGs) : TGs := fun vs σ H Q => ∃ ds env h Qn, RDs K H ds vs ∧ RS K H env σ ∧ RW K h H ∧ g ds env h Qn ∧ KN K H Qn Q
structure DG (X : Cx) (t : Expr) (g : WG) : Prop where
  ok : ∀ W, Cok X W → PG X t (tG X.K g)
structure DGs (X : Cx) (ts : List Expr) (g : WGs) : Prop where
  ok : ∀ W, Cok X W → PGs X ts (tGs X.K g)
theorem _root_.L2.PG.imp {X : Cx} {e : Expr} {t t' : TG} (p : PG X e t) (h : ∀ v σ H Q, t' v σ H Q → t v σ H Q) : PG X e t' := ⟨fun pins s σ H v u Q I r q => p.run pins s σ H v u Q I r (h v σ H Q q)⟩
theorem _root_.L2.PGs.imp {X : Cx} {e : List Expr} {t t' : TGs} (p : PGs X e t) (h : ∀ v σ H Q, t' v σ H Q → t v σ H Q) : PGs X e t' := ⟨fun pins s σ H v u Q I r q => p.run pins s σ H v u Q I r (h v σ H Q q)⟩
def gN (i : Nat) : WG := fun d env h Q => Q (env.set i (some d)) h
theorem dg_name {i : Nat} (hN : X.N.Nodup) (hi : X.N[i]? = some x := by rfl) (hx : Loc X.env.scope x := by first | exact Or.inl rfl | exact Or.inr rfl) (hf : X.fn x = true ∨ X.env.scope.names.lookup x = some .local := by first | exact .inl rfl | exact .inr rfl) : DG X (.Name x pos) (gN i) :=
  ⟨fun W ck => (pg_name hN hi hx hf).imp fun v σ H Q ⟨d, env, h, Qn, rd, rs, rw_, q, kn⟩ => kn _ h _ H (.refl H) (rs.set i rd) rw_ q⟩
def gNl : WGs := fun ds env h Q => ds = [] ∧ Q env h
def gCn (g : WG) (gs : WGs) : WGs := fun ds env h Q => match ds with
  | d :: ds => g d env h fun e1 h1 => gs ds e1 h1 Q
  | [] => False
theorem dgs_nil : DGs X [] gNl := ⟨fun W ck => pgs_nil.imp fun v σ H Q ⟨ds, env, h, Qn, rd, rs, rw_, ⟨e, q⟩, kn⟩ => by
  subst e; cases rd; exact ⟨rfl, kn env h σ H (.refl H) rs rw_ q⟩⟩
theorem dgs_cons {t : Expr} {ts : List Expr} {g : WG} {gs : WGs} (h1 : DG X t g) (h2 : DGs X ts gs) (hs : (assignEach (t :: ts) X.env).map (·.2) = assign t X.env :: (assignEach ts X.env).map (·.2) := by rfl) : DGs X (t :: ts) (gCn g gs) :=
  ⟨fun W ck => (pgs_cons (h1.ok W ck) (h2.ok W ck) hs).imp fun v σ H Q ⟨ds, env, h, Qn, rds, rs, rw_, q, kn⟩ => by
    cases rds with
    | nil => exact q.elim
    | cons rd r => exact ⟨_, _, rfl, _, env, h, _, rd, rs, rw_, q, fun e1 h1 s1 H1 p1 r1 w1 q1 => ⟨_, e1, h1, Qn, r.mono p1, r1, w1, q1, kn.mono p1⟩⟩⟩
def gT (n : Nat) (gs : WGs) : WG := fun d env h Q => match d with
  | .tup ds => ds.length = n ∧ gs ds env h Q
  | _ => False
theorem dg_tup {es : List Expr} {k n : Nat} {gs : WGs} (h : DGs X es gs) (hc : X.calm = true := by rfl) (hn : (assignEach es X.env).length = n := by rfl) (hst : (assignEach es X.env).findIdx? (·.1) = none := by rfl) : DG X (.Tuple es k pos) (gT n gs) :=
  ⟨fun W ck => (pg_tup hc (h.ok W ck) hn hst).imp fun v σ H Q ⟨d, env, h, Qn, rd, rs, rw_, q, kn⟩ => by
    cases d <;> try exact q.elim
    obtain ⟨a, vs, rfl, t, r⟩ := rd.tup_inv
    exact ⟨a, vs, rfl, SqT.of t, by rw [← r.length]; exact q.1, _, env, h, Qn, r, rs, rw_, q.2, kn⟩⟩
def ixQ (n : Nat) (d : D) (k : Nat → Prop) : Prop := match d with
  | .int z => match ixN n z with
    | some j => k j
    | none => False
  | _ => False
theorem ixQ.get {n : Nat} {d : D} {k : Nat → Prop} (q : ixQ n d k) : ∃ z j, d = .int z ∧ ixN n z = some j ∧ k j := by
  unfold ixQ at q
  split at q
  · rename_i z
    split at q
    · rename_i j e; exact ⟨z, j, rfl, e, q⟩
    · exact q.elim
  · exact q.elim
def gSub (wo wi : WE) : WG := fun d env h Q => wo env h (fun o h1 => wi env h1 (fun i h2 => lstQ h2 o fun a xs => ixQ xs.length i fun j => Q env (dup h2 a (.lst (xs.set j d)))) fun _ _ => False) fun _ _ => False
theorem noX {K : PySem.W.Frag} {H : Hp} {W : WX} {σ : L2.St} : KX K H (fun _ _ => False) W σ := fun _ _ _ _ _ _ _ _ q => q.elim
theorem dg_sub {i : Expr} {wi : WE} (ho : DE X o wo) (hi : DE X i wi)
    (ha : ∀ v, assign (.Subscript o i pos) X.env v = (do
      let ov ← holding [v] (eval o X.env); let iv ← holding [v, ov] (eval i X.env); standAt pos; holding [v, ov, iv] (setItem ov iv v)
      release [v, ov, iv] []) := by intro _; rfl) : DG X (.Subscript o i pos) (gSub wo wi) :=
  ⟨fun W ck => (pg_sub (ho.ok W ck) (hi.ok W ck) set_list ha).imp fun v σ H Q ⟨d, env, h, Qn, rd, rs, rw_, q, kn⟩ =>
    ⟨env, h, _, _, rs, rw_, q, fun od h1 ov H1 p1 r1 ro q1 => ⟨env, h1, _, _, rs.mono p1, r1, q1, fun idd h2 iv H2 p2 r2 ri q2 => by
      obtain ⟨a, xs, rfl, e1, q3⟩ := q2.get
      cases ro
      obtain ⟨z, j, rfl, ej, q3⟩ := q3.get
      cases ri
      obtain ⟨vs, hv, rr⟩ := r2 _ _ e1
      have w : Wr (H2 a) := by rw [hv]; exact True.intro
      have pw : Pe H2 (upd H2 a (.lst (vs.set j v))) := Pe.wr w
      have p := (p1.trans p2).trans pw
      exact ⟨a, vs, _, j, rfl, rfl, hv, by rw [← rr.length]; exact ej, kn env _ σ _ p (rs.mono p) (r2.set w (show RO X.K _ a (.lst (xs.set j d)) from ⟨_, upd_same, (rr.set (rd.mono (p1.trans p2)) j).mono pw⟩)) q3⟩, noX⟩, noX⟩⟩
def wAsg (we : WE) (g : WG) : WS := fun E env h => we env h (fun d h1 => g d env h1 E.nx) (fun x h1 => E.rx x env h1)
theorem ds_asg {tg : Expr} {g : WG} (he : DE X e we) (hg : DG X tg g) (hs : swapsWithSole [tg] e pos.line X.env = pure false := by rfl) (hw : swappedStores [tg] e X.env = pure none := by rfl)
    (h1 : (assignEach [tg] X.env).map (·.2) = [assign tg X.env] := by rfl) : DS X (.Assign [tg] e pos) (wAsg we g) :=
  ⟨fun W ck => (ps_asg (he.ok W ck) (hg.ok W ck) hs hw h1).imp fun D σ H ⟨E, env, h, rs, rw_, q, ks⟩ =>
    ⟨env, h, _, _, rs, rw_, q, fun d h1 v H1 p1 r1 rd q1 => ⟨d, env, h1, E.nx, rd, rs.mono p1, r1, q1, fun e' h' s' H' p r1 r2 q' => ks.nx e' h' s' H' (p1.trans p) r1 r2 q'⟩, ks.kx rs⟩⟩
def wSet (i : Nat) (we : WE) : WS := fun E env h => we env h (fun d h1 => E.nx (env.set i (some d)) h1) (fun x h1 => E.rx x env h1)
theorem ds_set {i : Nat} (hN : X.N.Nodup) (he : DE X e we) (hi : X.N[i]? = some x := by rfl) (hx : Loc X.env.scope x := by first | exact Or.inl rfl | exact Or.inr rfl) (hs : swapsWith e (some (.Name x pos')) pos.line X.env = pure false := by rfl)
    (hf : X.fn x = true ∨ X.env.scope.names.lookup x = some .local := by first | exact .inl rfl | exact .inr rfl) : DS X (.Assign [.Name x pos'] e pos) (wSet i we) :=
  ⟨fun W ck => (ps_set hN hi hx (he.ok W ck) hs hf).imp fun D σ H ⟨E, env, h, rs, rw_, q, ks⟩ =>
    ⟨env, h, _, _, rs, rw_, q, fun d h1 v H1 p1 r1 rd q1 => ks.nx _ h1 _ H1 p1 ((rs.mono p1).set i rd) r1 q1, ks.kx rs⟩⟩
/-- o.f = e -/
def putD (f : Str) (d : D) : List (Str × D) → List (Str × D)
  | [] => [(f, d)]
  | (g, y) :: r => if g = f then (g, d) :: r else (g, y) :: putD f d r
theorem put_rel {K : PySem.W.Frag} {H : Hp} {f : Str} {d : D} {v : V} (rd : RD K H d v) : ∀ {fs : List (Str × D)} {vs : List (Str × V)}, vs.map (·.1) = fs.map (·.1) → RDs K H (fs.map (·.2)) (vs.map (·.2)) →
    (putF f v vs).map (·.1) = (putD f d fs).map (·.1) ∧ RDs K H ((putD f d fs).map (·.2)) ((putF f v vs).map (·.2))
  | [], [], _, _ => ⟨rfl, .cons rd .nil⟩
  | [], _ :: _, e, _ => by cases e
  | _ :: _, [], e, _ => by cases e
  | (n, y) :: fs, (n', z) :: vs, e, r => by
    obtain ⟨e1, e2⟩ := List.cons.inj (show n' :: vs.map (·.1) = n :: fs.map (·.1) from e)
    subst e1
    cases r with
    | cons r1 r2 =>
      obtain ⟨i1, i2⟩ := put_rel (f := f) rd e2 r2
      unfold putF putD
      by_cases q : n' = f
      · rw [if_pos q, if_pos q]
        exact ⟨by simpa using e2, .cons rd r2⟩
      · rw [if_neg q, if_neg q]
        exact ⟨by simpa using i1, .cons r1 i2⟩
def wFldS (Cs : List Addr) (wo we : WE) (m : Str) : WS := fun E env h => we env h (fun d h1 => wo env h1 (fun o h2 => ∃ a C fs, o = .ref a ∧ h2 a = some (.ins C fs) ∧ C ∈ Cs ∧ fs.length < 1000 ∧ E.nx env (dup h2 a (.ins C (putD m d fs)))) (fun x h1 => E.rx x env h1)) (fun x h1 => E.rx x env h1)
theorem ds_fld {m : Str} {Cs : List Addr} (ho : DE X o wo) (he : DE X value we) (c : ClsD X.K m Cs) (hs : swapsWith value (some (.Attribute o m pos')) pos.line X.env = pure false := by rfl) : DS X (.Assign [.Attribute o m pos'] value pos) (wFldS Cs wo we m) :=
  ⟨fun W ck => (ps_fld (ho.ok W ck) (he.ok W ck) hs).imp fun D σ H ⟨E, env, h, rs, rw_, q, ks⟩ =>
    ⟨env, h, _, _, rs, rw_, q, fun d h1 v H1 p1 r1 rd q1 => ⟨env, h1, _, _, rs.mono p1, r1, q1, fun od h2 ov H2 p2 r2 ro ⟨a, C, fs, eo, e1, hC, hl, q2⟩ => by
      subst eo
      cases ro
      obtain ⟨dx, vs, hv, hn, rr⟩ := r2 _ _ e1
      obtain ⟨c1, c2⟩ := c.ok C hC
      have w : Wr (H2 a) := by rw [hv]; exact True.intro
      have pw : Pe H2 (upd H2 a (.ins C dx (putF m v vs))) := Pe.wr w
      obtain ⟨i1, i2⟩ := put_rel (f := m) (rd.mono p2) hn rr
      have hl2 : vs.length < 1000 := by
        have z := congrArg List.length hn
        rw [List.length_map, List.length_map] at z
        omega
      have p := (p1.trans p2).trans pw
      exact ⟨a, C, dx, vs, rfl, hv, c1, c2, hl2, ks.nx env _ σ _ p (rs.mono p) (r2.set w (show RO X.K _ a (.ins C (putD m d fs)) from ⟨dx, _, upd_same, i1, i2.mono pw⟩)) q2⟩, (ks.mono p1).kx (rs.mono p1)⟩, ks.kx rs⟩⟩
/-- x op= e, of ints -/
def wAugI (i : Nat) (f : Int → Int → Int) (we : WE) : WS := fun E env h => match env[i]? with
  | some (some (.int a)) => we env h (fun d h1 => match d with
    | .int b => E.nx (env.set i (some (.int (f a b)))) h1
    | _ => False) (fun x h1 => E.rx x env h1)
  | _ => False
theorem aug_ok {W : WX} {i : Nat} {f : Int → Int → Int} (D : Ends) (σ : L2.St) (H : Hp) (q : tS X.K W (wAugI i f we) D σ H) : tAug i (tE X.K W we) (ipI f) D σ H := by
  obtain ⟨E, env, h, rs, rw_, q, ks⟩ := q
  unfold wAugI at q
  split at q
  · rename_i a e1
    obtain ⟨v, e2, rv⟩ := rs.get e1
    cases rv
    refine ⟨_, e2, env, h, _, _, rs, rw_, q, fun d h1 v H1 p1 r1 rd q1 => ?_, ks.kx rs⟩
    cases d <;> try exact q1.elim
    cases rd
    exact ⟨_, _, rfl, rfl, ks.nx _ h1 _ H1 p1 ((rs.mono p1).set i (.int _)) r1 q1⟩
  · exact q.elim
theorem ds_addI {i : Nat} (hN : X.N.Nodup) (he : DE X e we) (hi : X.N[i]? = some x := by rfl) (hx : Loc X.env.scope x := by first | exact Or.inl rfl | exact Or.inr rfl) (hf : X.fn x = true ∨ X.env.scope.names.lookup x = some .local := by first | exact .inl rfl | exact .inr rfl) :
    DS X (.AugAssign (.Name x pos') .Add e pos) (wAugI i (fun a b => a + b) we) := ⟨fun W ck => (ps_aug hN hi hx (he.ok W ck) ip_add hf).imp aug_ok⟩
theorem ds_subI {i : Nat} (hN : X.N.Nodup) (he : DE X e we) (hi : X.N[i]? = some x := by rfl) (hx : Loc X.env.scope x := by first | exact Or.inl rfl | exact Or.inr rfl) (hf : X.fn x = true ∨ X.env.scope.names.lookup x = some .local := by first | exact .inl rfl | exact .inr rfl) :
    DS X (.AugAssign (.Name x pos') .Sub e pos) (wAugI i (fun a b => a - b) we) := ⟨fun W ck => (ps_aug hN hi hx (he.ok W ck) ip_sub hf).imp aug_ok⟩
/-! ### while -/
def whileW (c : WT) (b : WS) (E : En) : Nat → Ev → DH → Prop
  | 0, _, _ => False
  | n + 1, env, h => c env h (fun k h1 => if k = true then b { E with nx := whileW c b E n, ct := whileW c b E n, bk := E.nx } env h1 else E.nx env h1) (fun x h1 => E.rx x env h1)
def wWhile (c : WT) (b : WS) : WS := fun E env h => ∃ n, whileW c b E n env h
theorem ds_while (hc : DT X c wt) (hb : DSs X body w1) : DS X (.While c body [] pos) (wWhile wt w1) :=
  ⟨fun W ck => (ps_while ck.po (hc.ok W ck) (hb.ok W ck)).imp fun D σ H ⟨E, env, h, rs, rw_, ⟨n, q⟩, ks⟩ => by
    refine ⟨fun m σ' H' => ∃ env h, Pe H H' ∧ RS X.K H' env σ' ∧ RW X.K h H' ∧ whileW wt w1 E m env h, ⟨n, env, h, .refl H, rs, rw_, q⟩, ?_⟩
    rintro m σ1 H1 ⟨env1, h1, p1, rs1, r1, q1⟩
    cases m with
    | zero => exact q1.elim
    | succ m =>
      have ks1 := ks.mono p1
      refine ⟨env1, h1, _, _, rs1, r1, q1, fun k h2 H2 p2 r2 q2 => ?_, ks1.kx rs1⟩
      cases k with
      | false =>
        rw [if_neg Bool.false_ne_true] at q2 ⊢
        exact ks1.nx env1 h2 σ1 H2 p2 (rs1.mono p2) r2 q2
      | true =>
        rw [if_pos rfl] at q2 ⊢
        refine ⟨fun σ' H' => ∃ env h, Pe H H' ∧ RS X.K H' env σ' ∧ RW X.K h H' ∧ whileW wt w1 E m env h, fun σ' H' z => ⟨m, Nat.lt_succ_self m, z⟩, _, env1, h2, rs1.mono p2, r2, q2, ?_⟩
        have ks2 := ks1.mono p2
        exact ⟨fun e' h' s' H' p r1 r2 q' => ⟨e', h', (p1.trans p2).trans p, r1, r2, q'⟩, ks2.rt, fun e' h' s' H' p r1 r2 q' => ks2.nx e' h' s' H' p r1 r2 q', fun e' h' s' H' p r1 r2 q' => ⟨e', h', (p1.trans p2).trans p, r1, r2, q'⟩, ks2.rx⟩⟩
/-! ### what is walked -/
structure Src where
  xs : List D
  gd : DH → Prop
abbrev WI := Ev → DH → (Src → DH → Prop) → QX → Prop
def ItOk (K : PySem.W.Frag) (H1 : Hp) (s : Src) (J : It) : Prop := ∀ i H h, Pe H1 H → RW K h H → s.gd h →
  (∀ x, s.xs[i]? = some x → J.go i H ∧ ∀ v H', J.yld i H v H' → Pe H H' ∧ RW K h H' ∧ RD K H' x v) ∧ (s.xs.length ≤ i → J.stop i H)
def tI (K : PySem.W.Frag) (W : WX) (w : WI) : TI := fun σ H R => ∃ (env : Ev) (h : DH) (Qn : Src → DH → Prop) (Qx : QX), RS K H env σ ∧ RW K h H ∧ w env h Qn Qx ∧ (∀ s h' J H', Pe H H' → RW K h' H' → ItOk K H' s J → Qn s h' → R J H') ∧ KX K H Qx W σ
structure DI (X : Cx) (tg iter : Expr) (w : WI) : Prop where
  ok : ∀ W, Cok X W → PI X tg iter (tI X.K W w)
def forW (gd : DH → Prop) (g : WG) (b : WS) (E : En) : List D → Ev → DH → Prop
  | [], env, h => E.nx env h
  | x :: xs, env, h => g x env h fun e1 h1 => b { E with nx := fun e2 h2 => gd h2 ∧ forW gd g b E xs e2 h2, ct := fun e2 h2 => gd h2 ∧ forW gd g b E xs e2 h2, bk := E.nx } e1 h1
def wFor (wi : WI) (g : WG) (b : WS) : WS := fun E env h => wi env h (fun s h1 => s.gd h1 ∧ forW s.gd g b E s.xs env h1) (fun x h1 => E.rx x env h1)
theorem _root_.L2.PI.imp {X : Cx} {tg e : Expr} {t t' : TI} (p : PI X tg e t) (h : ∀ σ H R, t' σ H R → t σ H R) : PI X tg e t' := ⟨fun pins s σ H R I q => p.run pins s σ H R I (h σ H R q)⟩
theorem ds_for {tg iter : Expr} {wi : WI} {g : WG} (hi : DI X tg iter wi) (hg : DG X tg g) (hb : DSs X body w1) (hc : X.calm = true := by rfl) (hs : ∀ x, foldedSetIterable iter X.env x = pure x := by intro _; rfl) : DS X (.For tg iter body [] pos) (wFor wi g w1) :=
  ⟨fun W ck => (ps_for ck.po hc (hi.ok W ck) (hg.ok W ck) (hb.ok W ck) hs).imp fun D σ H ⟨E, env, h, rs, rw_, q, ks⟩ => by
    refine ⟨env, h, _, _, rs, rw_, q, fun s h1 J H1 p1 r1 it ⟨gd1, q1⟩ => ?_, ks.kx rs⟩
    refine ⟨fun i m σ' H' => m = s.xs.length - i ∧ i ≤ s.xs.length ∧ ∃ env h, Pe H1 H' ∧ RS X.K H' env σ' ∧ RW X.K h H' ∧ s.gd h ∧ forW s.gd g w1 E (s.xs.drop i) env h,
      ⟨s.xs.length, by simp, Nat.zero_le _, env, h1, .refl H1, rs.mono p1, r1, gd1, by simpa using q1⟩, ?_⟩
    rintro i m σ2 H2 ⟨rfl, hle, env2, h2, p2, rs2, r2, gd2, q2⟩
    have ks2 := ks.mono (p1.trans p2)
    by_cases hlt : i < s.xs.length
    · have hx : s.xs[i]? = some s.xs[i] := List.getElem?_eq_getElem hlt
      obtain ⟨go, yl⟩ := (it i H2 h2 p2 r2 gd2).1 _ hx
      rw [List.drop_eq_getElem_cons hlt] at q2
      refine .inr ⟨go, fun σ' H' => ∃ env h, Pe H1 H' ∧ RS X.K H' env σ' ∧ RW X.K h H' ∧ s.gd h ∧ forW s.gd g w1 E (s.xs.drop (i + 1)) env h, fun σ' H' z => ⟨s.xs.length - (i + 1), by omega, rfl, hlt, z⟩, fun v H3 y => ?_⟩
      obtain ⟨p3, r3, rd3⟩ := yl v H3 y
      refine ⟨_, env2, h2, _, rd3, rs2.mono p3, r3, q2, fun e4 h4 s4 H4 p4 rs4 r4 q4 => ?_⟩
      have ks4 := ks2.mono (p3.trans p4)
      have pp := p2.trans (p3.trans p4)
      exact ⟨_, e4, h4, rs4, r4, q4, ⟨fun e' h' s' H' p r1 r2 q' => ⟨e', h', pp.trans p, r1, r2, q'.1, q'.2⟩, ks4.rt, fun e' h' s' H' p r1 r2 q' => ks4.nx e' h' s' H' p r1 r2 q', fun e' h' s' H' p r1 r2 q' => ⟨e', h', pp.trans p, r1, r2, q'.1, q'.2⟩, ks4.rx⟩⟩
    · have e : i = s.xs.length := by omega
      subst e
      rw [List.drop_length] at q2
      exact .inl ⟨(it _ H2 h2 p2 r2 gd2).2 (Nat.le_refl _), ks2.nx env2 h2 σ2 H2 (.refl H2) rs2 r2 q2⟩⟩
/-! a list or a tuple -/
def srcQ (h : DH) (d : D) (k : Src → Prop) : Prop := match d with
  | .tup xs => k ⟨xs, fun _ => True⟩
  | .sl xs => k ⟨xs, fun _ => True⟩
  | .ref a => match h a with
    | some (.lst xs) => k ⟨xs, fun h' => h' a = some (.lst xs)⟩
    | _ => False
  | _ => False
def wItems (we : WE) : WI := fun env h Q Qx => we env h (fun d h1 => srcQ h1 d fun s => Q s h1) Qx
theorem it_tup {K : PySem.W.Frag} {H1 : Hp} {a : Addr} {xs : List D} {vs : List V} (t : SqT K H1 a vs) (r : RDs K H1 xs vs) (tup : ∀ H, Pe H1 H → SqT K H a vs) (inj : True) : ∀ (i : Nat) (H : Hp) (h : DH), Pe H1 H → RW K h H →
    (∀ x, xs[i]? = some x → (Itt K a).go i H ∧ ∀ v H', (Itt K a).yld i H v H' → Pe H H' ∧ RW K h H' ∧ RD K H' x v) ∧ (xs.length ≤ i → (Itt K a).stop i H) := fun i H h p rw_ =>
  ⟨fun x hx => by
    obtain ⟨v, hv, rd⟩ := r.get hx
    exact ⟨⟨vs, v, tup H p, hv⟩, fun v' H' ⟨e, y⟩ => by
      subst e
      have z := y vs (tup _ p)
      rw [hv] at z
      cases z
      exact ⟨.refl _, rw_, rd.mono p⟩⟩, fun hl => ⟨vs, tup H p, by rw [← r.length]; exact hl⟩⟩
theorem it_lst {K : PySem.W.Frag} {H1 : Hp} {a : Addr} {xs : List D} {gd : DH → Prop} (at_ : ∀ H h, Pe H1 H → RW K h H → gd h → ∃ vs, SqL K H a vs ∧ RDs K H xs vs) : ItOk K H1 ⟨xs, gd⟩ (Itl K a) := fun i H h p rw_ g => by
  obtain ⟨vs, s, r⟩ := at_ H h p rw_ g
  refine ⟨fun x hx => ?_, fun hl => ⟨vs, s, by rw [← r.length]; exact hl⟩⟩
  obtain ⟨v, hv, rd⟩ := r.get hx
  refine ⟨⟨vs, v, s, hv⟩, fun v' H' y => ?_⟩
  obtain ⟨e, y⟩ := y
  subst e
  have z := y vs s
  rw [hv] at z
  cases z
  exact ⟨.refl _, rw_, rd⟩
/-- any sequence, walked -/
theorem di_items {tg : Expr} (he : DE X e we) : DI X tg e (wItems we) := ⟨fun W ck => ⟨fun pins s σ H R I h => by
  obtain ⟨env, h, Qn, Qx, rs, rw_, q, kr, kx⟩ := h
  refine thn ((he.ok W ck).run pins s σ H (fun v H1 => ∃ d h1, Pe H H1 ∧ RW X.K h1 H1 ∧ RD X.K H1 d v ∧ srcQ h1 d fun s => Qn s h1) I ⟨env, h, _, Qx, rs, rw_, q, fun d h1 v H1 p1 r1 rd q1 => ⟨d, h1, p1, r1, rd, q1⟩, kx⟩) fun u s1 hh => ?_
  obtain ⟨v, H1, I1, rv, d, h1, p1, r1, rd, q1⟩ := hh
  have lst : ∀ (a : Addr) (vs : List V) (sr : Src), v = .ref a → SqL X.K H1 a vs → ItOk X.K H1 sr (Itl X.K a) → Qn sr h1 → wpAny (model X.prog X.w) X.A (pyIter u) (PIE X pins σ tg R) X.xe s1 := fun a vs sr ev sq it qq => by
    subst ev
    cases (show u = Value.ref a from rv)
    obtain ⟨its, ra, p, hz⟩ := I1.list sq
    refine wpAny_pyIter_list p.isList ⟨s1.heap.objs.size, [s1.heap.objs.size], _, _, H1, rfl, I1.kept (t' := s1.toks) fun b o e => Heap.get?_push_of_some _ e, turn_list a _, ⟨_, Heap.get?_push_size _ rfl, rfl, rfl⟩, fun b hb => ?_, kr sr h1 _ H1 p1 r1 it qq⟩
    cases List.mem_singleton.mp hb
    exact I1.fpOk (Nat.le_refl _) (I1.hok.fresh (Nat.le_refl _))
  cases d with
  | tup xs =>
    obtain ⟨a, vs, rfl, t, r⟩ := rd.tup_inv
    cases (show u = Value.ref a from rv)
    obtain ⟨its, ra, p, hz⟩ := I1.tuple (SqT.of t)
    refine wpAny_pyIter_tuple (show s1.heap.IsTuple a its.toArray from p) ⟨s1.heap.objs.size, [s1.heap.objs.size], _, _, H1, rfl, I1.kept (t' := s1.toks) fun b o e => Heap.get?_push_of_some _ e, turn_tuple a _, ⟨_, Heap.get?_push_size _ rfl, rfl, rfl⟩, fun b hb => ?_,
      kr ⟨xs, fun _ => True⟩ h1 _ H1 p1 r1 (fun i H h p rw_ _ => it_tup (SqT.of t) r (fun H p => p.sqT (SqT.of t)) trivial i H h p rw_) q1⟩
    cases List.mem_singleton.mp hb
    exact I1.fpOk (Nat.le_refl _) (I1.hok.fresh (Nat.le_refl _))
  | sl xs =>
    obtain ⟨a, vs, ev, t, r⟩ := rd.sl_inv
    exact lst a vs ⟨xs, fun _ => True⟩ ev t.seq (it_lst fun H h p rw_ _ => ⟨vs, (p.stL t).seq, r.mono p⟩) q1
  | ref a =>
    have ev : v = .ref a := rd.ref_inv
    unfold srcQ at q1
    dsimp only at q1
    split at q1
    · rename_i xs e1
      obtain ⟨vs, hv, r⟩ := r1 _ _ e1
      exact lst a vs ⟨xs, _⟩ ev (SqL.of hv) (it_lst fun H h p rw_ g => by
        obtain ⟨vs', hv', r'⟩ := rw_ _ _ g
        exact ⟨vs', SqL.of hv', r'⟩) q1
    · exact q1.elim
  | _ => exact q1.elim⟩⟩
/-- lo, lo + 1, .. n of them -/
def upto (lo : Int) (n : Nat) : List D := (List.range n).map fun i => D.int (lo + (i : Nat))
theorem upto_get {lo : Int} {n i : Nat} {x : D} (h : (upto lo n)[i]? = some x) : i < n ∧ x = .int (lo + (i : Nat)) := by
  unfold upto at h
  rw [List.getElem?_map] at h
  by_cases hi : i < n
  · rw [List.getElem?_range hi] at h
    cases h
    exact ⟨hi, rfl⟩
  · rw [List.getElem?_eq_none (by simpa using hi)] at h; cases h
theorem it_rng {K : PySem.W.Frag} {H1 : Hp} {lo : Int} {n : Nat} : ItOk K H1 ⟨upto lo n, fun _ => True⟩ (Itr lo n) := fun i H h p rw_ _ =>
  ⟨fun x hx => by
    obtain ⟨hi, rfl⟩ := upto_get hx
    exact ⟨hi, fun v H' ⟨e1, e2⟩ => by subst e1 e2; exact ⟨.refl _, rw_, .int _⟩⟩, fun hl => by
    have z : n ≤ i := by simpa [upto] using hl
    exact z⟩
def wRng1 (ws : WA) : WI := fun env h Q Qx => ws env h (fun ds h1 => match ds with
  | [.int j] => -(2 ^ 62) ≤ j ∧ j < 2 ^ 62 ∧ Q ⟨upto 0 j.toNat, fun _ => True⟩ h1
  | _ => False) Qx
def wRng2 (ws : WA) : WI := fun env h Q Qx => ws env h (fun ds h1 => match ds with
  | [.int i, .int j] => (-(2 ^ 62) ≤ i ∧ i < 2 ^ 62 ∧ -(2 ^ 62) ≤ j ∧ j < 2 ^ 62) ∧ Q ⟨upto i (j - i).toNat, fun _ => True⟩ h1
  | _ => False) Qx
theorem di_rng1 {tg a : Expr} {ws : WA} {p : Pos} (hg : Gl X "range") (hm : X.mg "range" = none) (ha : DA X [a] ws) (hs : starEach [a] X.env = [(false, eval a X.env)] := by rfl) : DI X tg (.Call (.Name "range" p) [a] [] pos) (wRng1 ws) :=
  ⟨fun W ck => (pi_range1 hg hm (ha.ok W ck) hs).imp fun σ H R ⟨env, h, Qn, Qx, rs, rw_, q, kr, kx⟩ =>
    ⟨env, h, _, Qx, rs, rw_, q, fun ds h1 vs H1 p1 r1 rds q1 => by
      split at q1
      · rename_i j
        cases rds with
        | cons r t => cases t; cases r; exact ⟨j, rfl, q1.1, q1.2.1, kr _ h1 _ H1 p1 r1 it_rng q1.2.2⟩
      · exact q1.elim, kx⟩⟩
theorem di_rng2 {tg a b : Expr} {ws : WA} {p : Pos} (hg : Gl X "range") (hm : X.mg "range" = none) (ha : DA X [a, b] ws) (hs : starEach [a, b] X.env = [(false, eval a X.env), (false, eval b X.env)] := by rfl) (hs2 : starEach [b] X.env = [(false, eval b X.env)] := by rfl) :
    DI X tg (.Call (.Name "range" p) [a, b] [] pos) (wRng2 ws) :=
  ⟨fun W ck => (pi_range2 hg hm (ha.ok W ck) hs hs2).imp fun σ H R ⟨env, h, Qn, Qx, rs, rw_, q, kr, kx⟩ =>
    ⟨env, h, _, Qx, rs, rw_, q, fun ds h1 vs H1 p1 r1 rds q1 => by
      split at q1
      · rename_i i j
        cases rds with
        | cons r t =>
          cases t with
          | cons r2 t => cases t; cases r; cases r2; exact ⟨i, j, rfl, q1.1, kr _ h1 _ H1 p1 r1 it_rng q1.2⟩
      · exact q1.elim, kx⟩⟩
end
end DL
namespace DL
open PySem PySem.Spec PyProof.Rows L2
/-! ### comprehensions over one thing, the target a name -/
section
variable {X : Cx} {elt iter c : Expr} {ifs : List Expr} {scope : Scope} {x y : Str} {pos py pp spos : Pos} {wi : WI} {wt : WT} {we : WE} {i : Nat}
structure DTs (X : Cx) (ifs : List Expr) (w : WT) : Prop where
  ok : ∀ W, Cok X W → PTs X ifs (tT X.K W w)
theorem _root_.L2.PTs.imp {X : Cx} {e : List Expr} {t t' : TT} (p : PTs X e t) (h : ∀ σ H Q, t' σ H Q → t σ H Q) : PTs X e t' := ⟨fun pins s σ H Q I q => p.run pins s σ H Q I (h σ H Q q)⟩
def wYes : WT := fun _ h Q _ => Q true h
theorem dts_nil : DTs X [] wYes := ⟨fun W ck => pts_nil.imp fun σ H Q ⟨env, h, Qn, Qx, rs, rw_, q, kq, kx⟩ => kq true h H (.refl H) rw_ q⟩
theorem dts_one (h : DT X c wt) : DTs X [c] wt := ⟨fun W ck => pts_one (h.ok W ck)⟩
def lcW (p : Addr) (gd : DH → Prop) (i : Nat) (wt : WT) (we : WE) (env : Ev) (Q : DH → Prop) : List D → DH → Prop
  | [], h => Q h
  | x :: xs, h => wt (env.set i (some x)) h (fun b h2 => if b = true then we (env.set i (some x)) h2 (fun y h3 => lstQ h3 (.ref p) fun _ acc => acc.length < sizeLine ∧ gd (dup h3 p (.lst (acc ++ [y]))) ∧ lcW p gd i wt we env Q xs (dup h3 p (.lst (acc ++ [y])))) (fun _ _ => False)
      else gd h2 ∧ lcW p gd i wt we env Q xs h2) (fun _ _ => False)
def wLc (wi : WI) (i : Nat) (wt : WT) (we : WE) : WE := fun env h Q Qx => wi env h (fun s h1 => ∀ p, h1 p = none → s.gd (dup h1 p (.lst [])) ∧ lcW p s.gd i wt we env (fun h2 => Q (.ref p) h2) s.xs (dup h1 p (.lst []))) Qx
theorem lc_imp {K : PySem.W.Frag} {W : WX} {σ : L2.St} {H : Hp} {Q : VK} (h : tE K W (wLc wi i wt we) σ H Q) :
    tLc (tI K W wi) (gName i) (tT K (fun _ _ _ _ => False) wt) (tE K (fun _ _ _ _ => False) we) [i] σ H Q := by
  obtain ⟨env, h, Qn, Qx, rs, rw_, q, kq, kx⟩ := h
  refine ⟨env, h, _, Qx, rs, rw_, q, fun s h1 J H1 p1 r1 it q1 => fun p hp => ?_, kx⟩
  obtain ⟨gd1, q2⟩ := q1 p (r1.fresh hp)
  have pn : Pe H1 (upd H1 p (.lst [])) := Pe.new hp
  refine ⟨fun j m H' => m = s.xs.length - j ∧ j ≤ s.xs.length ∧ ∃ h', Pe (upd H1 p (.lst [])) H' ∧ RW K h' H' ∧ s.gd h' ∧ lcW p s.gd i wt we env (fun h2 => Qn (.ref p) h2) (s.xs.drop j) h',
    ⟨s.xs.length, by simp, Nat.zero_le _, _, .refl _, r1.new hp (show RO K _ p (.lst []) from ⟨[], upd_same, .nil⟩), gd1, by simpa using q2⟩, ?_⟩
  rintro j m H2 ⟨rfl, hle, h2, p2, r2, gd2, q3⟩
  have pp := pn.trans p2
  by_cases hlt : j < s.xs.length
  · have hx : s.xs[j]? = some s.xs[j] := List.getElem?_eq_getElem hlt
    obtain ⟨go, yl⟩ := (it j H2 h2 pp r2 gd2).1 _ hx
    rw [List.drop_eq_getElem_cons hlt] at q3
    refine .inr ⟨go, fun H' => ∃ h', Pe (upd H1 p (.lst [])) H' ∧ RW K h' H' ∧ s.gd h' ∧ lcW p s.gd i wt we env (fun h2 => Qn (.ref p) h2) (s.xs.drop (j + 1)) h', fun H' z => ⟨s.xs.length - (j + 1), by omega, rfl, hlt, z⟩, fun v H3 y => ?_⟩
    obtain ⟨p3, r3, rd3⟩ := yl v H3 y
    have ew : ((wipe σ [i]).set i (some v)) = σ.set i (some v) := by show (σ.set i none).set i (some v) = _; rw [List.set_set]
    have rs3 : RS K H3 (env.set i (some s.xs[j])) ((wipe σ [i]).set i (some v)) := by rw [ew]; exact (rs.mono (p1.trans (pp.trans p3))).set i rd3
    refine ⟨by rw [ew]; show (σ.set i (some v)).set i none = σ.set i none; rw [List.set_set], _, h2, _, _, rs3, r3, q3, fun b h4 H4 p4 r4 q4 => ?_, noX⟩
    cases b with
    | false =>
      rw [if_neg Bool.false_ne_true] at q4 ⊢
      exact ⟨h4, p2.trans (p3.trans p4), r4, q4.1, q4.2⟩
    | true =>
      rw [if_pos rfl] at q4 ⊢
      refine ⟨_, h4, _, _, rs3.mono p4, r4, q4, fun d h5 u H5 p5 r5 rd5 q5 => ?_, noX⟩
      obtain ⟨a, acc, ea, e5, hz, g5, q6⟩ := q5.get
      cases ea
      obtain ⟨vs, hv, rr⟩ := r5 _ _ e5
      have w : Wr (H5 p) := by rw [hv]; exact True.intro
      have pw : Pe H5 (upd H5 p (.lst (vs ++ [u]))) := Pe.wr w
      exact ⟨vs, hv, by rw [← rr.length]; exact hz, _, p2.trans (p3.trans (p4.trans (p5.trans pw))), r5.set w (show RO K _ p (.lst (acc ++ [d])) from ⟨_, upd_same, (rr.append (.cons rd5 .nil)).mono pw⟩), g5, q6⟩
  · have e : j = s.xs.length := by omega
    subst e
    rw [List.drop_length] at q3
    exact .inl ⟨(it _ H2 h2 pp r2 gd2).2 (Nat.le_refl _), kq (.ref p) h2 (.ref p) H2 (p1.trans pp) r2 (.ref p) q3⟩
theorem cok_blk {s : Shared} {H : Hp} {env : Env} {fp : List Addr} : Cok (X.blk s H scope env fp) (fun _ _ _ _ => False) := ⟨takes0, PassesOwn.never⟩
theorem de_lc (hN : X.N.Nodup) (hi : DI X (.Name x pp) iter wi) (ok : BlkOk X.N X.env.scope scope [(x, i)])
    (hg : ∀ (s : Shared) (H : Hp) (C : Addr) (cl : List (Str × Addr)) (fp : List Addr), PG (X.blk s H scope (compEnvC scope cl C X.env) fp) (.Name x pp) (gName i))
    (ht : ∀ (s : Shared) (H : Hp) (C : Addr) (cl : List (Str × Addr)) (fp : List Addr), DTs (X.blk s H scope (compEnvC scope cl C X.env) fp) ifs wt)
    (he : ∀ (s : Shared) (H : Hp) (C : Addr) (cl : List (Str × Addr)) (fp : List Addr), DE (X.blk s H scope (compEnvC scope cl C X.env) fp) elt we)
    (hc : X.calm = true := by rfl) (hs : ∀ x, foldedSetIterable iter X.env x = pure x := by intro _; rfl) : DE X (.ListComp elt [⟨.Name x pp, iter, ifs, 0⟩] scope pos) (wLc wi i wt we) :=
  ⟨fun W ck => (pe_lc (own := [(x, i)]) hc hN (hi.ok W ck) ok hg (fun s H C cl fp => (ht s H C cl fp).ok _ cok_blk) (fun s H C cl fp => (he s H C cl fp).ok _ cok_blk) hs).imp fun σ H Q h => lc_imp h⟩
theorem ds_setLc {iy : Nat} (hN : X.N.Nodup) (hi : DI X (.Name x pp) iter wi) (ok : BlkOk X.N X.env.scope scope [(x, i)])
    (hg : ∀ (s : Shared) (H : Hp) (C : Addr) (cl : List (Str × Addr)) (fp : List Addr), PG (X.blk s H scope (compEnvC scope cl C X.env) fp) (.Name x pp) (gName i))
    (ht : ∀ (s : Shared) (H : Hp) (C : Addr) (cl : List (Str × Addr)) (fp : List Addr), DTs (X.blk s H scope (compEnvC scope cl C X.env) fp) ifs wt)
    (he : ∀ (s : Shared) (H : Hp) (C : Addr) (cl : List (Str × Addr)) (fp : List Addr), DE (X.blk s H scope (compEnvC scope cl C X.env) fp) elt we)
    (hsw : swapsWith (.ListComp elt [⟨.Name x pp, iter, ifs, 0⟩] scope pos) (some (.Name y py)) spos.line X.env = pure true)
    (hy : X.N[iy]? = some y := by rfl) (hyl : X.env.scope.names.lookup y = some .local := by rfl)
    (hc : X.calm = true := by rfl) (hs : ∀ x, foldedSetIterable iter X.env x = pure x := by intro _; rfl) : DS X (.Assign [.Name y py] (.ListComp elt [⟨.Name x pp, iter, ifs, 0⟩] scope pos) spos) (wSet iy (wLc wi i wt we)) :=
  ⟨fun W ck => (ps_setLc (own := [(x, i)]) hc hN hy hyl hsw (hi.ok W ck) ok hg (fun s H C cl fp => (ht s H C cl fp).ok _ cok_blk) (fun s H C cl fp => (he s H C cl fp).ok _ cok_blk) hs).imp fun D σ H ⟨E, env, h, rs, rw_, q, ks⟩ =>
    lc_imp ⟨env, h, _, _, rs, rw_, q, fun d h1 v H1 p1 r1 rd q1 => ks.nx _ h1 _ H1 p1 ((rs.mono p1).set iy rd) r1 q1, ks.kx rs⟩⟩
end
/-! ### a def from its body -/
/-- the worth that a body's reading gives: what the def has made may be forgotten where it ends -/
def wDef (np nn : Nat) (w : WS) : WF := fun ds h Q Qx => ds.length = np ∧
  w { nx := fun _ h' => ∃ h2, Sub h2 h' ∧ Q .non h2, rt := fun d h' => ∃ h2, Sub h2 h' ∧ Q d h2, bk := fun _ _ => False, ct := fun _ _ => False, rx := fun x _ h' => ∃ h2, Sub h2 h' ∧ Qx x h2 } (ds.map some ++ List.replicate (nn - np) none) h
theorem wDef_ar {np nn : Nat} {w : WS} : Ar np (wDef np nn w) := fun _ _ _ _ q => q.1
section
variable {P : Program} {w : World} {K : PySem.W.Frag} {mg : Str → Option Value} {base : Heap}
theorem fnD_of {x qual : Str} {st : Stmt} {f : Addr} {fd : FuncData} {N ps : List Str} {k : Nat} {wb : WS} (F : Fun K x qual st f fd) (S : FnScope N ps (defScope st))
    (hb : ∀ (cdv : Value) (A : Around) (outer : List Env) (s : Shared) (H : Hp) (E : XK), Room k (A.deeper (envOfC qual (defScope st) s.heap.objs.size f cdv)) →
      DSs (cxOf (L2.CX P w) P w K mg base N qual (defScope st) f cdv A outer s H E) (defBody st) wb) : FnD P w K mg base (k + 1) f fd ps (wDef ps.length N.length wb) := by
  refine F.okX S (fun vs H Q E h => h.1) fun cdv A outer s H vs Q E hr hsp => ?_
  obtain ⟨hl, ds, h, Qn, Qx, rds, rw_, ⟨hn, q⟩, kq, ke⟩ := hsp
  have cok : Cok (cxOf (L2.CX P w) P w K mg base N qual (defScope st) f cdv A outer s H E) (fun cls d _ H => E cls d H) := ⟨takes_of rfl rfl rfl rfl, passes_of rfl⟩
  refine ⟨_, (hb cdv A outer s H E hr).ok _ cok, ?_⟩
  have rs : RS K H (ds.map some ++ List.replicate (N.length - ps.length) none) (start N vs) := by
    unfold L2.start
    rw [hl]
    exact RS.start _ rds
  refine ⟨_, _, h, rs, rw_, q, ⟨fun e' h' s' H' p r1 r2 ⟨h2, sb, q'⟩ => kq .non h2 .non H' p (r2.sub sb) .non q', fun d h' v H' p r rd ⟨h2, sb, q'⟩ => kq d h2 v H' p (r.sub sb) rd q', fun _ _ _ _ _ _ _ z => z.elim, fun _ _ _ _ _ _ _ z => z.elim,
    fun x e' h' s' c d H' p r1 r2 rx ⟨h2, sb, q'⟩ => ke x h2 c d H' p (r2.sub sb) rx q'⟩⟩
/-- a weaker worth -/
theorem FnOk.worth {k : Nat} {f : Addr} {fd : FuncData} {ps : List Str} {wf wf' : WF} (F : FnD P w K mg base k f fd ps wf) (h : ∀ ds h Q Qx, wf' ds h Q Qx → wf ds h Q Qx) : FnD P w K mg base k f fd ps wf' :=
  FnOk.imp F fun vs H Q E ⟨a, ds, h', Qn, Qx, r1, r2, q, kq, ke⟩ => ⟨a, ds, h', Qn, Qx, r1, r2, h _ _ _ _ q, kq, ke⟩
end
/-! ### raise, try -/
section
variable {X : Cx} {C : Addr} {bmB : List Value} {B newId initId : String} {x m n : Str} {j i : Nat} {p p2 pos pos2 np pos' : Pos}
def wRaise (C : Addr) : WS := fun E env h => E.rx (.own C) env h
/-- raise X('m'), X an own class without __init__ -/
theorem ds_raise (F : ExcBaseFacts B newId initId bmB) (q : PySem.W.excIn X.K C bmB newId = true) (gC : X.mg x = some (.ref C)) (kC : PySem.W.keepIn X.K (.ref C) = true) (r : Raises X (.ref C)) (hg : Gl X x)
    (hc : X.calm = true := by rfl) (hdb : (x == ("__debug__" : Str)) = false := by decide) : DS X (.Raise (some (.Call (.Name x p) [.Constant (.str m) j p2] [] pos)) none pos2) (wRaise C) :=
  ⟨fun W ck => (ps_raise hc ck.tk (pmk_own F q gC kC r hg hdb)).imp fun D σ H ⟨E, env, h, rs, rw_, q, ks⟩ => ks.rx (.own C) env h σ (.ref C) none H (.refl H) rs rw_ ⟨rfl, rfl⟩ q⟩
/-- try: body, except c as n: suite. cm: which classes the clause takes -/
def wTry (wb : WS) (cm : List (Addr × Bool)) (i : Nat) (wsu : Addr → XC → WS) : WS := fun E env h =>
  wb { E with rx := fun x e' h' => (∃ b, (x.cls, b) ∈ cm ∧ if b = true then ∀ a, wsu a x { nx := fun e2 h2 => E.nx (e2.set i none) h2, rt := E.rt, bk := fun e2 h2 => E.bk (e2.set i none) h2, ct := fun e2 h2 => E.ct (e2.set i none) h2, rx := fun _ _ _ => False } (e'.set i (some (.ref a))) h' else E.rx x e' h') } env h
theorem RS.weak_ref {K : PySem.W.Frag} {H : Hp} {env : Ev} {σ : L2.St} (rs : RS K H env σ) (i : Nat) (a : Addr) : RS K H (env.set i (some (.ref a))) (σ.set i (some (.ref a))) := rs.set i (.ref a)
theorem ds_try {c : Value} {body suite : List Stmt} {b0 : Stmt} {wb : WS} {cm : List (Addr × Bool)} {wsu : Addr → XC → WS} (hN : X.N.Nodup) (hc : Names X x c) (hcm : ∀ q ∈ cm, PySem.W.exmOne X.K (.ref q.1) c = some q.2)
    (hb : ∀ (pn : List (Addr × Obj)) (xe : Value → Shared → Prop), DSs (X.tr pn xe) body wb)
    (hsu : ∀ (a : Addr) (oe : Obj) (xc : XC) (cls : Value) (d : Option Addr) (pn : List (Addr × Obj)), cls = .ref xc.cls → (∀ C, xc = .own C → d = none) → Zc cls d oe → (∃ vs, oe.data = .fields vs) → DSs (X.suite a ((a, oe) :: pn)) (b0 :: suite) (wsu a xc))
    (hs : X.stack = X.env :: X.outer := by rfl) (hf : X.env.frame = some X.env.locals := by rfl) (hi : X.N[i]? = some n := by rfl) (hln : X.env.kindOf n = some .local := by rfl) :
    DS X (.Try body [.ExceptHandler (some (.Name x np)) (some n) (b0 :: suite) pos'] [] [] pos) (wTry wb cm i wsu) :=
  ⟨fun W ck => (ps_try_as (tb := fun W2 => tS X.K W2 wb) (Wout := W) (ts := fun a cls d => fun D σ H => ∃ xc, cls = .ref xc.cls ∧ (∀ C, xc = .own C → d = none) ∧ tS X.K (fun _ _ _ _ => False) (wsu a xc) D σ H) hs hf hN hi hln hc ck.tk (fun W' pn xe tk po => (hb pn xe).ok W' ⟨tk, po⟩)
    (fun a oe cls d pn z f => ⟨fun pins s σ H D I ⟨xc, e, ed, q⟩ => ((hsu a oe xc cls d pn e ed z f).ok (fun _ _ _ _ => False) ⟨takes0, PassesOwn.never⟩).run pins s σ H D I q⟩)).imp fun D σ H ⟨E, env, h, rs, rw_, q, ks⟩ => by
    unfold wTry at q
    refine ⟨_, env, h, rs, rw_, q, ⟨ks.nx, ks.rt, ks.bk, ks.ct, ?_⟩⟩
    intro xc e' h' s' cls d H' p r1 r2 rx hq
    obtain ⟨b, hb1, hb2⟩ := hq
    have ec := rx.cls
    refine ⟨b, by rw [ec]; exact hcm _ hb1, fun eb a na => ?_, fun eb => ?_⟩
    · subst eb
      rw [if_pos rfl] at hb2
      have ks' := ks.mono p
      exact ⟨xc, ec, (fun C z => by subst z; exact rx.2), _, _, h', r1.set i (.ref a), r2, hb2 a, ⟨fun e2 h2 s2 H2 p2 q1 q2 q3 => ks'.nx _ h2 _ H2 p2 (q1.clear i) q2 q3, ks'.rt, fun e2 h2 s2 H2 p2 q1 q2 q3 => ks'.bk _ h2 _ H2 p2 (q1.clear i) q2 q3, fun e2 h2 s2 H2 p2 q1 q2 q3 => ks'.ct _ h2 _ H2 p2 (q1.clear i) q2 q3, fun _ _ _ _ _ _ _ _ _ _ _ z => z.elim⟩⟩
    · subst eb
      rw [if_neg Bool.false_ne_true] at hb2
      exact ks.rx xc e' h' s' cls d H' p r1 r2 rx hb2⟩
end
/-! ### a op1 b op2 c, a test or a value -/
section
variable {X : Cx} {a b c : Expr} {wa wb wc : WE} {pos : Pos}
def wChain (g g' : G2) (wa wb wc : WE) : WE := fun env h Q Qx => wa env h (fun x h1 => wb env h1 (fun y h2 => g x y h2 fun z h3 => match z with
  | .bl k => if k = true then wc env h3 (fun w h4 => g' y w h4 Q) Qx else Q (.bl false) h3
  | _ => False) Qx) Qx
theorem de_chain {op op' : CmpOp} {g g' : G2} (o : Op2 X (compareOp op) g) (o' : Op2 X (compareOp op') g') (ha : DE X a wa) (hb : DE X b wb) (hc : DE X c wc) (hm : lastMarks [op, op'] [b, c] = false := by with_unfolding_all rfl) :
    DE X (.Compare a [op, op'] [b, c] pos) (wChain g g' wa wb wc) := by
  obtain ⟨r, ho, s⟩ := o.ex
  obtain ⟨r', ho', s'⟩ := o'.ex
  refine ⟨fun W ck => (pe_chain ho ho' (ha.ok W ck) (hb.ok W ck) (hc.ok W ck) hm).imp fun σ H Q ⟨env, h, Qn, Qx, rs, rw_, q, kq, kx⟩ => ?_⟩
  refine ⟨env, h, _, Qx, rs, rw_, q, fun x h1 vx H1 p1 r1 rx q1 => ⟨env, h1, _, Qx, rs.mono p1, r1, q1, fun y h2 vy H2 p2 r2 ry q2 => s x y h2 _ H2 vx vy _ (rx.mono p2) ry r2 q2 fun d h3 v H3 p3 r3 rd q3 => ?_, kx.mono p1⟩, kx⟩
  obtain ⟨k, ed, q4⟩ := isB2 (P := fun c => _) q3
  subst ed
  refine ⟨k, rd.bl_inv, ?_⟩
  have pp := p1.trans (p2.trans p3)
  cases k with
  | false =>
    rw [if_neg Bool.false_ne_true] at q4 ⊢
    exact kq _ _ _ _ pp r3 (.bl _) q4
  | true =>
    rw [if_pos rfl] at q4 ⊢
    exact ⟨env, h3, _, Qx, rs.mono pp, r3, q4, fun z h4 vz H4 p4 r4 rz q5 => s' y z h4 Qn H4 vy vz Q (ry.mono (p3.trans p4)) rz r4 q5 (kq.mono (pp.trans p4)), kx.mono pp⟩
end
/-! ### isinstance(e, c) of a caught error -/
section
variable {X : Cx} {a D : Addr} {oe : Obj} {pn : List (Addr × Obj)} {n c : Str} {cv : Value} {b : Bool} {i : Nat} {p p2 p3 pos : Pos} {vc : V}
def wIsE (i : Nat) (a : Addr) (b : Bool) : WE := fun env h Q _ => env[i]? = some (some (.ref a)) ∧ Q (.bl b) h
theorem de_isE (EC : ExcC X.K D) (hz : Zc (.ref D) none oe) (hf : ∃ vs, oe.data = .fields vs) (kit : PySem.W.kitOne X.K (.ref D) cv = some b) (hcv : ∀ u, RelV vc u → u = cv) (hn : PE (X.suite a ((a, oe) :: pn)) (.Name n p3) (tVar i)) (hc : PE (X.suite a ((a, oe) :: pn)) (.Name c p2) (tC vc))
    (hg : Gl (X.suite a ((a, oe) :: pn)) "isinstance" := by rfl) (hm : X.mg "isinstance" = none)
    (h1 : starEach [.Name n p3, .Name c p2] (X.suite a ((a, oe) :: pn)).env = (false, eval (.Name n p3) (X.suite a ((a, oe) :: pn)).env) :: starEach [.Name c p2] (X.suite a ((a, oe) :: pn)).env := by rfl) (h2 : starEach [.Name c p2] (X.suite a ((a, oe) :: pn)).env = (false, eval (.Name c p2) (X.suite a ((a, oe) :: pn)).env) :: starEach [] (X.suite a ((a, oe) :: pn)).env := by rfl)
    (hpl : (backTo pos (starEach [.Name c p2] (X.suite a ((a, oe) :: pn)).env)).any (·.1) = false := by rfl) : DE (X.suite a ((a, oe) :: pn)) (.Call (.Name "isinstance" p) [.Name n p3, .Name c p2] [] pos) (wIsE i a b) :=
  ⟨fun W ck => (pe_callB (call_isE EC hz hf) hg hm (by decide +kernel) (pa_cons hn (pa_cons hc pa_nil h2) h1) (by decide) (by decide) h1 hpl).imp fun σ H Q ⟨env, h, Qn, Qx, rs, rw_, ⟨e1, q⟩, kq, kx⟩ => by
    obtain ⟨o, eo, ro⟩ := paired_get rs e1
    obtain ⟨y, rfl, ry⟩ := ro _ rfl
    cases ry
    refine ⟨_, eo, ?_⟩
    exact ⟨vc, cv, b, rfl, hcv, kit, kq _ h _ _ (.refl H) rw_ (.bl b) q⟩⟩
end
section
variable {X : Cx} {st : List Stmt} {w : WS} {p : Prop}
theorem dss_pure (d : p → DSs X st w) : DSs X st (fun E env h => p ∧ w E env h) := ⟨fun W ck => ⟨fun pins s σ H D I ⟨E, env, h, rs, rw_, ⟨hp, q⟩, ks⟩ => ((d hp).ok W ck).run pins s σ H D I ⟨E, env, h, rs, rw_, q, ks⟩⟩⟩
end
section
variable {K : PySem.W.Frag} {C D : Addr} {b : Bool} {T : String}
theorem kit_ref (hd : PySem.W.hasDictIn K C = true) (ht : PySem.W.typeIn K (.ref C) = some (.type "type")) (h : PySem.W.subIn K (.ref D) (.ref C) = some b) (hb : b = true ∨ D ≠ C) : PySem.W.kitOne K (.ref D) (.ref C) = some b := by
  obtain ⟨cd, hc, _⟩ := PySem.W.any_some hd
  have e2 : ((PySem.W.clsIn K C).isSome && PySem.W.typeIn K (.ref C) == some (.type "type")) = true := by rw [hc, ht] <;> rfl
  have e3 : PySem.W.kitCls K (.ref D) (.ref C) = some b := by
    unfold PySem.W.kitCls
    dsimp only
    rw [if_pos e2, h]
  unfold PySem.W.kitOne
  by_cases q : (Value.ref D == Value.ref C) = true
  · rw [if_pos q]
    rcases hb with hb | hb
    · rw [hb]
    · exact absurd (Value.ref.inj (beq_iff_eq.mp q)) hb
  · rw [if_neg q, e3]
theorem kit_typ (hm : PySem.W.kitMeta T = true) (h : PySem.W.subIn K (.ref D) (.type T) = some b) : PySem.W.kitOne K (.ref D) (.type T) = some b := by
  unfold PySem.W.kitOne PySem.W.kitCls
  have q : ¬ (Value.ref D == Value.type T) = true := by
    intro z
    have := beq_iff_eq.mp z
    cases this
  rw [if_neg q]
  dsimp only
  rw [if_pos hm, h]
end
/-! ### a, b = x, y -/
section
variable {X : Cx} {i j : Nat} {x y : Str} {a b : Expr} {ws : WA} {px py pt pt2 pos : Pos} {kt k2 : Nat}
def wPar (i j : Nat) (ws : WA) : WS := fun E env h => ws env h (fun ds h1 => match ds with
  | [x, y] => E.nx ((env.set i (some x)).set j (some y)) h1
  | _ => False) (fun x h1 => E.rx x env h1)
theorem ds_par (hN : X.N.Nodup) (ha : DA X [a, b] ws) (hc : X.calm = true := by rfl) (hi : X.N[i]? = some x := by rfl) (hj : X.N[j]? = some y := by rfl) (hij : i ≠ j := by decide)
    (hx : X.env.scope.names.lookup x = some .local := by rfl) (hy : X.env.scope.names.lookup y = some .local := by rfl)
    (hw : swappedStores [.Tuple [.Name x px, .Name y py] kt pt] (.Tuple [a, b] k2 pt2) X.env = pure (some [x, y]) := by rfl)
    (hs : swapsWithSole [.Tuple [.Name x px, .Name y py] kt pt] (.Tuple [a, b] k2 pt2) pos.line X.env = pure false := by rfl) :
    DS X (.Assign [.Tuple [.Name x px, .Name y py] kt pt] (.Tuple [a, b] k2 pt2) pos) (wPar i j ws) :=
  ⟨fun W ck => (ps_par hc hN hi hj hij hx hy (ha.ok W ck) hw hs).imp fun D σ H ⟨E, env, h, rs, rw_, q, ks⟩ =>
    ⟨env, h, _, _, rs, rw_, q, fun ds h1 vs H1 p1 r1 rds q1 => by
      split at q1
      · rename_i d e
        cases rds with
        | cons r t =>
          cases t with
          | cons r2 t2 =>
            cases t2
            exact ⟨_, _, rfl, ks.nx _ h1 _ H1 p1 (((rs.mono p1).set i r).set j r2) r1 q1⟩
      · exact q1.elim, ks.kx rs⟩⟩
end
/-! ### x in l, by data -/
def gIn (neg : Bool) : G2 := fun x y h Q => match py h x, py h y with
  | some d, some (.list ds) => SeqAt.shaped d = true ∧ SeqAt.shaped (.list ds) = true ∧ Q (.bl (if neg = true then !ds.any (fun z => PyData.eqv z d) else ds.any fun z => PyData.eqv z d)) h
  | _, _ => False
section
variable {X : Cx}
theorem o_in (hu : X.A.units + 65 < cLine) : Op2 X (compareOp .In) (gIn false) := by
  refine ⟨_, op_inD hu, ?_⟩
  intro x y h Qn H vx vy Q rx ry rw_ q kq
  unfold gIn at q
  split at q
  · rename_i d ds e1 e2
    exact ⟨d, ds, pyD_ok (pyR_ok rw_ 3) rx e1, pyD_ok (pyR_ok rw_ 3) ry e2, q.1, q.2.1, kq.here rw_ (.bl _) q.2.2⟩
  · exact q.elim
theorem o_notin (hu : X.A.units + 65 < cLine) : Op2 X (compareOp .NotIn) (gIn true) := by
  refine ⟨_, op_notInD hu, ?_⟩
  intro x y h Qn H vx vy Q rx ry rw_ q kq
  unfold gIn at q
  split at q
  · rename_i d ds e1 e2
    exact ⟨d, ds, pyD_ok (pyR_ok rw_ 3) rx e1, pyD_ok (pyR_ok rw_ 3) ry e2, q.1, q.2.1, kq.here rw_ (.bl _) q.2.2⟩
  · exact q.elim
end
theorem room65 {k : Nat} {A : Around} (r : Room k A) : A.units + 65 < cLine := by have := r.un; omega
end DL
namespace DL
open PySem PySem.Spec PyProof.Rows L2
/-! ### t[::-1] of a tuple -/
theorem rev_adjust (n : Nat) : Builtin.Slice.sliceAdjust none none (-1) (n : Int) = ((n : Int) - 1, -1) := by
  unfold Builtin.Slice.sliceAdjust; rfl
theorem rev_places (n : Nat) : Builtin.Slice.slicePlaces ((n : Int) - 1) (-1) (-1) = n := by
  unfold Builtin.Slice.slicePlaces
  rw [if_neg (by decide)]
  by_cases h : 0 < n
  · rw [if_pos (by omega)]
    have : ((n : Int) - 1 - -1 - 1) / -(-1) + 1 = n := by
      have e : -(-1 : Int) = 1 := by decide
      rw [e, Int.ediv_one]; omega
    rw [this]; simp
  · have : n = 0 := by omega
    subst this
    rw [if_neg (by decide)]; rfl
theorem rev_pick (xs : Array Value) : ((List.range xs.size).filterMap fun (k : Nat) => xs[(((xs.size : Int) - 1) + (k : Int) * -1).toNat]?).toArray = xs.toList.reverse.toArray := by
  have e : (fun (k : Nat) => xs[(((xs.size : Int) - 1) + (k : Int) * -1).toNat]?) = (fun k => xs[k]?) ∘ fun k => xs.size - 1 - k := by
    funext k
    have e1 : (((xs.size : Int) - 1) + (k : Int) * -1).toNat = xs.size - 1 - k := by omega
    rw [e1]; rfl
  rw [e, ← List.filterMap_map, PySem.W.krv_range, List.filterMap_reverse, PySem.W.krv_all]
section
variable {prog : Program} {w : World} {A : Around} {E : Value → Shared → Prop} {s : Shared}
theorem applied_rev {sl : Addr} {vl vu vs : Value} {n : Nat} {Q : Int × Int × Nat → Shared → Prop} (hs : s.heap.IsSliceOf sl vl vu vs) (pl : IsPart vl none) (pu : IsPart vu none) (ps : IsPart vs (some (-1)))
    (h : Q ((n : Int) - 1, -1, n) s) : wpAny (model prog w) A (Builtin.Slice.sliceApplied (.ref sl) (pure (n : Int))) Q E s := by
  obtain ⟨os, hos, hcs, hds⟩ := hs
  unfold Builtin.Slice.sliceApplied Builtin.Slice.sliceFields
  refine wpAny_bind (wpAny_bind (wpAny_field hos hds (x := vl) rfl (wpAny_bind (wpAny_field hos hds (x := vu) rfl (wpAny_bind (wpAny_field hos hds (x := vs) rfl (wpAny_pure (wpAny_bind (HT.slicePart_ ps ?_)))))))))
  show wpAny _ _ (if ((-1 : Int) == 0) = true then _ else _) _ _ s
  rw [if_neg (by decide)]
  refine wpAny_bind (HT.slicePart_ pl (wpAny_bind (HT.slicePart_ pu (wpAny_bind (wpAny_pure ?_)))))
  show wpAny _ _ (match Builtin.Slice.sliceAdjust none none (-1) (n : Int) with | (lo, hi) => pure (lo, (-1 : Int), Builtin.Slice.slicePlaces lo hi (-1))) _ _ s
  rw [rev_adjust n]
  show wpAny _ _ (pure ((n : Int) - 1, (-1 : Int), Builtin.Slice.slicePlaces ((n : Int) - 1) (-1) (-1))) _ _ s
  rw [rev_places]; exact wpAny_pure h
theorem tuple_rev {t sl : Addr} {items : Array Value} {vl vu vs : Value} {Q : Value → Shared → Prop} (ht : IsTup s.heap t items) (hs : s.heap.IsSliceOf sl vl vu vs) (pl : IsPart vl none) (pu : IsPart vu none) (ps : IsPart vs (some (-1)))
    (h : Q (.ref s.heap.objs.size) { s with heap := s.heap.push { cls := .type "tuple", data := .seq items.toList.reverse.toArray } }) (hsz : items.size ≤ sizeLine) : wpAny (model prog w) A (getItem (.ref t) (.ref sl)) Q E s := by
  have hk : sizeOk (.seq items.toList.reverse.toArray) := by
    show items.toList.reverse.toArray.size ≤ sizeLine; simpa using hsz
  obtain ⟨os, hos, hcs, hds⟩ := id hs
  have hTs : s.TypeIs (.ref sl) "slice" := ⟨os, hos, hcs⟩
  unfold getItem
  first
    | refine wpAny_bind (wpAny_sequenceKey ht.typeIs (by decide) ?_)
    | refine wpAny_holding (wpAny_bind (wpAny_sequenceKey ht.typeIs (by decide) ?_))
    | refine wpAny_bind (wpAny_pure (wpAny_bind (wpAny_sequenceKey ht.typeIs (by decide) ?_)))
  refine wpAny_bind (wpAny_callSpecial?_slot (name := Str.ofString "__getitem__") ht.typeIs PyProof.Rows.slot_tuple_getitem (wpAny_call_entry PyProof.Rows.slot_tuple_getitem ht.typeIs entry_tuple_getitem ?_ (args_tuple_getitem _ _)))
  show wpAny _ _ (Builtin.Tuple.tupleItemsOf (.ref t) >>= _) _ _ s
  refine wpAny_bind (tupleItemsOf_ ht (wpAny_bind (wpAny_typeOf hTs ?_)))
  rw [if_pos (by decide)]
  refine wpAny_bind (applied_rev (n := items.size) hs pl pu ps ?_)
  have hno : ¬ ((((items.size : Int) - 1) == 0 && (-1 : Int) == 1 && items.size == items.size) = true) := by
    rw [show ((-1 : Int) == 1) = false from by decide, Bool.and_false, Bool.false_and]; exact Bool.false_ne_true
  show wpAny _ _ (if (((items.size : Int) - 1) == 0 && (-1 : Int) == 1 && items.size == items.size) = true then _ else _) _ _ s
  rw [if_neg hno, rev_pick]
  first
    | exact wpAny_bind (m := Builtin.Tuple.tupleExact _) (wpAny_newObj_type (wpAny_pure ⟨_, rfl, wpAny_pure h⟩) hk)
    | exact wpAny_bind (m := Builtin.Tuple.tupleExact _) (wpAny_newObj_type (wpAny_bind (wpAny_pure (wpAny_pure ⟨_, rfl, wpAny_pure h⟩))) hk)
    | exact wpAny_bind (wpAny_bind (m := Builtin.Tuple.tupleExact _) (wpAny_newObj_type (wpAny_pure (wpAny_pure ⟨_, rfl, wpAny_pure h⟩)) hk))
    | exact wpAny_bind (wpAny_bind (m := Builtin.Tuple.tupleExact _) (wpAny_newObj_type (wpAny_pure ⟨_, rfl, wpAny_pure h⟩) hk))
end
section
variable {X : Cx} {e : Expr} {w : WE} {pos : Pos}
def tRevA (K : PySem.W.Frag) (te : TE) : TE := fun σ H Q => te σ H fun x H1 => ∃ a xs, x = .ref a ∧ ((SqL K H1 a xs ∧ ∀ p, H1 p = none → Q (.ref p) (upd H1 p (.lst xs.reverse))) ∨ (SqT K H1 a xs ∧ ∀ p, H1 p = none → Q (.ref p) (upd H1 p (.tup xs.reverse))))
theorem pe_revA {te : TE} {k : Nat} {p1 p2 p3 : Pos} (he : PE X e te) : PE X (.Subscript e (.Slice none none (some (.UnaryOp .USub (.Constant (.int 1) k p1) p2)) p3) pos) (tRevA X.K te) := ⟨fun pins s σ H Q I h => by
  refine Subscript_ (thn (he.run pins s σ H _ I h) fun v s1 hh => ?_)
  obtain ⟨x, H1, I1, r1, a, xs, ex, q⟩ := hh
  subst ex
  cases r1
  have hst : PO X (some (.UnaryOp .USub (.Constant (.int 1) k p1) p2)) (tPart (tUn (rU fun i => .int (-i)) (tC (.int 1)))) := po_some (pe_un un_neg pe_int)
  refine wpAny_Slice (thn (po_none.run pins s1 σ H1 (fun o H2 => o = none ∧ H2 = H1) I1 ⟨rfl, rfl⟩) fun vl s2 h2 => ?_)
  obtain ⟨l, H2, I2, pl, el, e2⟩ := h2
  subst el e2
  refine thn (po_none.run pins s2 σ H2 (fun o H3 => o = none ∧ H3 = H2) I2 ⟨rfl, rfl⟩) fun vu s3 h3 => ?_
  obtain ⟨u, H3, I3, pu, eu, e3⟩ := h3
  subst eu e3
  refine thn (hst.run pins s3 σ H3 (fun o H4 => o = some (-1) ∧ H4 = H3) I3 ⟨1, rfl, -1, rfl, rfl, rfl⟩) fun vs s4 h4 => ?_
  obtain ⟨o, H4, I4, ps, eo, e4⟩ := h4
  subst eo e4
  have I5 : Inv X pins σ H4 { s4 with heap := s4.heap.push { cls := .type "slice", data := .fields #[vl, vu, vs] } } := I4.kept (t' := s4.toks) fun b ob q => Heap.get?_push_of_some _ q
  show wpAny (model X.prog X.w) X.A (subscriptTail e (.Slice none none (some (.UnaryOp .USub (.Constant (.int 1) k p1) p2)) p3) (.ref a) (.ref s4.heap.objs.size)) (EP X pins σ Q) X.xe { s4 with heap := s4.heap.push { cls := .type "slice", data := .fields #[vl, vu, vs] } }
  rcases q with ⟨hx, q⟩ | ⟨hx, q⟩
  · obtain ⟨its, r, ht, hz⟩ := I5.list hx
    have hlen := r.length
    refine tail_any (ops := [.ref a, .ref s4.heap.objs.size]) ht.isList.typeIs (PySem.slot_list_getitem.lookup) (wpAny_getItem_list_slice ht.isList (Heap.IsSliceOf.new _ vl vu vs) pl pu ps (by decide) ?_ (by rw [List.size_toArray]; omega)) (by with_unfolding_all rfl)
    rw [PySem.W.krv_pick]
    exact ⟨.ref _, _, I5.laid (t' := s4.toks) (o := .lst xs.reverse) (fun b ob q => Heap.get?_push_of_some _ q) (Nat.le_refl _) ⟨by rw [List.length_reverse]; exact hz, _, 0, r.reverse, Heap.get?_push_size _ rfl⟩, rfl, q _ (I5.hok.fresh (Nat.le_refl _))⟩
  · obtain ⟨its, r, ht, hz⟩ := I5.tuple hx
    have hlen := r.length
    refine tail_any (ops := [.ref a, .ref s4.heap.objs.size]) ht.typeIs PyProof.Rows.slot_tuple_getitem.lookup (tuple_rev ht (Heap.IsSliceOf.new _ vl vu vs) pl pu ps ?_ (by rw [List.size_toArray]; omega)) (by with_unfolding_all rfl)
    exact ⟨.ref _, _, I5.laid (t' := s4.toks) (o := .tup xs.reverse) (fun b ob q => Heap.get?_push_of_some _ q) (Nat.le_refl _) (show ObjOk X.prog X.w _ _ _ (.tup xs.reverse) from ⟨by rw [List.length_reverse]; exact hz, _, r.reverse, IsTup.new _ _⟩), rfl, q _ (I5.hok.fresh (Nat.le_refl _))⟩⟩
/-- xs[::-1] -/
def gRev (x : D) (h : DH) (Q : QD) : Prop := match x with
  | .tup xs => Q (.tup xs.reverse) h
  | x => gRevL x h Q
def wRev (w : WE) : WE := fun env h Q Qx => w env h (fun x h1 => gRev x h1 Q) Qx
theorem rev_ok {K : PySem.W.Frag} {H H1 : Hp} {x : D} {h1 : DH} {Qn : QD} {v : V} {Q : VK} (rd : RD K H1 x v) (p1 : Pe H H1) (r1 : RW K h1 H1) (q1 : gRev x h1 Qn) (kq : KQ K H Qn Q) :
    ∃ a xs, v = .ref a ∧ ((SqL K H1 a xs ∧ ∀ p, H1 p = none → Q (.ref p) (upd H1 p (.lst xs.reverse))) ∨ (SqT K H1 a xs ∧ ∀ p, H1 p = none → Q (.ref p) (upd H1 p (.tup xs.reverse)))) := by
  cases x with
  | tup xs =>
    obtain ⟨a, vs, rfl, t, r⟩ := rd.tup_inv
    exact ⟨a, vs, rfl, .inr ⟨SqT.of t, fun p hp => kq _ h1 _ _ (p1.trans (Pe.new hp)) (r1.beside hp) (.tup upd_same (r.reverse.mono (Pe.new hp))) q1⟩⟩
  | sl xs =>
    obtain ⟨a, vs, rfl, t, r⟩ := rd.sl_inv
    exact ⟨a, vs, rfl, .inl ⟨t.seq, fun p hp => newL_ok p1 r1 r.reverse q1 kq hp⟩⟩
  | ref a =>
    cases rd
    unfold gRev gRevL at q1
    dsimp only at q1
    split at q1
    · rename_i xs e
      obtain ⟨vs, hv, r⟩ := r1 _ _ e
      exact ⟨a, vs, rfl, .inl ⟨SqL.of hv, fun p hp => newL_ok p1 r1 r.reverse q1 kq hp⟩⟩
    · exact q1.elim
  | _ => exact q1.elim
theorem de_rev {k : Nat} {p1 p2 p3 : Pos} (he : DE X e w) : DE X (.Subscript e (.Slice none none (some (.UnaryOp .USub (.Constant (.int 1) k p1) p2)) p3) pos) (wRev w) :=
  ⟨fun W ck => (pe_revA (he.ok W ck)).imp fun σ H Q ⟨env, h, Qn, Qx, rs, rw_, q, kq, kx⟩ => ⟨env, h, _, Qx, rs, rw_, q, fun x h1 v H1 p1 r1 rd q1 => rev_ok rd p1 r1 q1 kq, kx⟩⟩
end
/-! ### tuple(reversed(x)) -/
section
variable {prog : Program} {w : World}
theorem no_len_rt : typeLookup (.type "reversed") "__len__" = pure none := by rw [typeLookup_type, builtinLookup_eq_fast]; kernel_rfl
theorem hint_rt : typeLookup (.type "reversed") "__length_hint__" = pure (some (.builtin "reversed.__length_hint__")) := by rw [typeLookup_type, builtinLookup_eq_fast]; kernel_rfl
theorem walks_rt {A : Around} (hh : A.handled = none) (I t : Addr) (hne : t ≠ I) (items : Array Value) (hz : items.size ≤ sizeLine) :
    WalksS prog w A I [I, t] [I] (fun a b => b = a) items.size (fun i v => items[items.size - 1 - i]? = some v) (fun i s => i ≤ items.size ∧ RT.IsRt s.heap I t ((items.size : Int) - 1 - (i : Int)) ∧ IsTup s.heap t items) where
  sub := fun b hb => by simp at hb; simp [hb]
  grefl := fun _ => rfl
  gtrans := fun _ _ _ a b => b.trans a
  frame := fun _ _ _ _ x _ hk => ⟨x.1, x.2.1.at fun o e => hk I (by simp) o e, by
    obtain ⟨o, e, r⟩ := x.2.2; exact ⟨o, hk t (by simp) o e, r⟩⟩
  item := fun i s Q E hi x hQ => by
    obtain ⟨_, hit, ht⟩ := x
    have e : (items.size : Int) - 1 - (i : Int) = ((items.size - 1 - i : Nat) : Int) := by omega
    rw [e] at hit
    have hx : items[items.size - 1 - i]? = some (items[items.size - 1 - i]'(by omega)) := Array.getElem?_eq_getElem (by omega)
    refine RT.next_rt_item hit ht hx hz fun h' hit' hs' => ?_
    have e2 : ((items.size - 1 - i : Nat) : Int) - 1 = (items.size : Int) - 1 - ((i + 1 : Nat) : Int) := by omega
    rw [e2] at hit'
    refine hQ _ _ hx ⟨hi, hit', ?_⟩ ⟨fun b o hb eo => (hs'.2 b (fun z => hb (by simp [z]))).trans eo, rfl, rfl, rfl, Nat.le_succ _⟩
    obtain ⟨o, eo, r⟩ := ht
    exact ⟨o, (hs'.2 t hne).trans eo, r⟩
  done := fun s Q E x hQ => by
    obtain ⟨_, hit, ht⟩ := x
    have e : (items.size : Int) - 1 - (items.size : Int) = -1 := by omega
    rw [e] at hit
    exact RT.next_rt_end hh hit fun h' he' => hQ _ ⟨fun b o hb eo => he' b o (fun h => hb (by simp [h])) eo, rfl, rfl, rfl, Nat.le_refl _⟩
  self := fun _ _ _ _ x hQ => RT.iter_rt x.2.1 hQ
theorem slot_rt_hint : Slot "reversed" "__length_hint__" "reversed.__length_hint__" := .of (owner := "reversed") (n := "__length_hint__") (by rw [typeLookup_type, builtinLookup_eq_fast]; kernel_rfl)
  (by decide +kernel) (by decide +kernel) (by decide +kernel) (by first | exact .inl (by decide +kernel) | exact .inr (by decide +kernel)) (by rw [isSubtype_type]; kernel_rfl)
theorem entry_rt_hint : entryFor table "reversed.__length_hint__" = some Builtin.«reversed.__length_hint__» := by
  first | exact entryFor_of_tree (by kernel_rfl) | exact entryFor_of_fast (by kernel_rfl)
theorem args_rt_hint (a : Value) : argsOk "reversed.__length_hint__" ⟨[a], []⟩ := by
  unfold argsOk; rw [signature?_of (id := "reversed.__length_hint__") (n := ['_', '_', 't', 'n', 'i', 'h', '_', 'h', 't', 'g', 'n', 'e', 'l', '_', '_']) (o := ['d', 'e', 's', 'r', 'e', 'v', 'e', 'r']) (by kernel_rfl) RT.owner_rt]; kernel_rfl
theorem call_hint {A : Around} {E : Value → Shared → Prop} {s : Shared} {it t : Addr} {items : Array Value} {Q : Value → Shared → Prop} (hit : RT.IsRt s.heap it t ((items.size : Int) - 1)) (ht : IsTup s.heap t items) (hn : items.size ≤ sizeLine)
    (h : ∀ tk tk', s.toks ≤ tk' → Q (.int (items.size : Int) tk) { s with toks := tk' }) : wpAny (model prog w) A (call (.builtin "reversed.__length_hint__") [.ref it]) Q E s := by
  obtain ⟨o, ho, hc, hd⟩ := id hit
  have hl := line63
  refine wpAny_call_entry slot_rt_hint hit.typeIs entry_rt_hint ?_ (args_rt_hint _)
  unfold Builtin.«reversed.__length_hint__»
  refine wpAny_bind (wpAny_of_eq (a := Value.ref it) rfl (wpAny_bind (wpAny_field ho hd (x := .ref t) rfl ?_)))
  rw [if_neg (by simp)]
  refine wpAny_bind (len_tuple ht (by omega) ?_)
  refine wpAny_bind (wpAny_of_eq (a := some (items.size : Int)) rfl ?_)
  refine wpAny_bind (wpAny_field (s := { s with toks := s.toks + 1 + 1 }) ho hd (x := rawInt ((items.size : Int) - 1)) rfl ?_)
  show wpAny _ _ (if (items.size : Int) < ((items.size : Int) - 1) + 1 then _ else _) _ _ _
  rw [if_neg (by omega), show ((items.size : Int) - 1) + 1 = items.size from by omega]
  unfold retInt
  exact wpAny_bind (wpAny_mkInt (wpAny_pure ⟨_, rfl, h _ _ (by show s.toks ≤ s.toks + 1 + 1 + 1; omega)⟩))
theorem collect_rt {A : Around} {E : Value → Shared → Prop} {s : Shared} {it t : Addr} {items : Array Value} {Q : List Value → Shared → Prop} (hh : A.handled = none) (hit : RT.IsRt s.heap it t ((items.size : Int) - 1)) (ht : IsTup s.heap t items) (hne : t ≠ it) (hn : items.size ≤ sizeLine)
    (hQ : ∀ (s' : Shared) (acc : Array Value), Moved [it] (fun a b => b = a) s s' → ItemsOf (fun i v => items[items.size - 1 - i]? = some v) acc items.size → Q acc.toList s') :
    wpAny (model prog w) A (collect (.ref it)) Q E s := by
  have W := walks_rt (prog := prog) (w := w) (A := A.in1) hh it t hne items hn
  obtain ⟨oi, hoi, hci⟩ := id hit
  obtain ⟨ot, hot, hct⟩ := id ht
  have hSi : s.heap.objs.size ≠ it := Nat.ne_of_gt (Heap.lt_size hoi)
  have hSt : s.heap.objs.size ≠ t := Nat.ne_of_gt (Heap.lt_size hot)
  have hSf : s.heap.objs.size ∉ [it, t] := by simp [hSi, hSt]
  unfold collect
  refine wpAny_bind (wpAny_runValue (codeAny_builtin F.entry_proto_collect ?_)); rw [Around.under_plainId F.plain_proto_collect _]
  show wpAny _ A.in1 (newList [] >>= fun l' => again (.builtin "list.__iadd__" ⟨[l', .ref it], []⟩)) _ _ s
  refine wpAny_bind (wpAny_newObj_type (wpAny_pure ⟨plainId_quiet F.plain_list_iadd _, codeAny_builtin F.entry_list_iadd ?_⟩)); rw [Around.under_plainId F.plain_list_iadd _]
  generalize hs1 : ({ s with heap := s.heap.push { cls := .type "list", data := .seq ([] : List Value).toArray } } : Shared) = s1
  have hp1 : ∀ b o, s.heap.get? b = some o → s1.heap.get? b = some o := fun b o e => by rw [← hs1]; exact Heap.get?_push_of_some _ e
  have hS1 : s1.heap.get? s.heap.objs.size = some { cls := .type "list", data := .seq ([] : List Value).toArray } := by rw [← hs1]; exact Heap.get?_push_size _ rfl
  have hit1 : RT.IsRt s1.heap it t ((items.size : Int) - 1) := hit.at fun o e => hp1 _ _ e
  have ht1 : IsTup s1.heap t items := ⟨ot, hp1 _ _ hot, hct⟩
  have hT : s1.TypeIs (.ref it) "reversed" := hit1.typeIs
  have h1 : Builtin.List.listSameRef (.ref s.heap.objs.size) (.ref it) = false := by simp [Builtin.List.listSameRef, hSi]
  show wpAny _ A.in1 (Builtin.List.listExtendWith (.ref s.heap.objs.size) (.ref it) (.ref s.heap.objs.size)) _ _ _
  unfold Builtin.List.listExtendWith
  refine wpAny_bind (wpAny_typeOf hT ?_); rw [if_neg (by rw [h1]; decide)]
  refine wpAny_bind (RT.iter_rt hit1 (wpAny_bind (wpAny_holding ?_)))
  unfold Builtin.List.listLengthHint
  refine wpAny_bind (wpAny_specialOf hT no_len_rt ?_)
  show wpAny _ A.in1 (specialOf (Value.ref it) (Str.ofString "__length_hint__") >>= _) _ _ _
  refine wpAny_bind (wpAny_specialOf hT hint_rt ?_)
  generalize hid : ("reversed.__length_hint__" : String) = id0
  wp_delta
  rw [show splitId id0 = some ("reversed", "__length_hint__") from by subst hid; decide +kernel]
  subst hid
  refine wpAny_bind (wpAny_isInstance (b := true) hT (by rw [isSubtype_type]; kernel_rfl) ?_)
  rw [if_neg (by decide)]
  change wpAny _ _ (ite _ _ _) _ _ _
  rw [if_neg (by decide +kernel)]
  refine wpAny_bind (wpAny_rule ?_)
  rw [slot_rt_hint.bind]
  refine wpAny_bind (wpAny_pure ?_)
  show wpAny _ _ ((call (.builtin "reversed.__length_hint__") [.ref it]).attempt >>= _) _ _ _
  refine wpAny_bind (wpAny_attempt (call_hint hit1 ht1 hn fun tk tk' htk => ?_))
  have hline := line63
  have hs : sizeLine = 16777216 := sizeLine_eq
  have ea : asInt? (.int (items.size : Int) tk) = pure (some (items.size : Int)) := rfl
  dsimp only
  rw [ea]
  refine wpAny_bind ?_
  refine wpAny_pure ?_
  dsimp only
  rw [if_neg (by
    have e1 : decide (-(2 ^ 63 : Int) ≤ (items.size : Int)) = true := decide_eq_true (by omega)
    have e2 : decide ((items.size : Int) < 2 ^ 63) = true := decide_eq_true (by omega)
    unfold Builtin.List.listFitsIndex
    rw [e1, e2]; decide)]
  rw [if_neg (by omega)]
  rw [if_neg (by rw [Int.toNat_natCast, notLongL hn]; exact Bool.false_ne_true)]
  refine wpAny_pure ?_
  have e0 : ((items.size : Nat) : Int) - 1 - ((0 : Nat) : Int) = (items.size : Int) - 1 := by omega
  by_cases hz : items.size = 0
  · rw [if_neg (by rw [hz]; decide +kernel)]
    refine wpAny_pure ⟨plainId_quiet F.plain_extend_loop _, codeAny_extend_loopS W hn _ hSf _ items.size 0 { s1 with toks := tk' } _ _ rfl (Nat.zero_le _) ⟨Nat.zero_le _, by rw [e0]; exact hit1, ht1⟩ hS1 (ItemsOf.nil _) fun s' acc' c' hm hS' hacc => ?_⟩
    change wpAny _ A (load s.heap.objs.size >>= _) _ _ s'
    refine wpAny_bind (wpAny_load hS' (wpAny_pure (hQ s' acc' ?_ hacc)))
    subst hs1
    exact Moved.drop_new (o := { cls := .type "list", data := .seq ([] : List Value).toArray }) (tk := tk') hm htk
  · have hb : ((items.size : Int) != 0) = true := by simpa using hz
    rw [if_pos (by rw [hb]; rfl)]
    refine wpAny_bind (wpAny_rule (wpAny_bind ?_))
    change wpAny _ A.in1 (updateSeq s.heap.objs.size (·.push .none) >>= fun _ => updateSeq s.heap.objs.size (·.pop)) _ _ _
    refine wpAny_bind (wpAny_updateSeq (s := { s1 with toks := tk' }) hS1 rfl ?_)
    have hS2 := Heap.get?_update_self (Obj.mapSeq (·.push Value.none)) hS1 rfl
    refine wpAny_updateSeq hS2 rfl ?_
    have hS3 := Heap.get?_update_self (Obj.mapSeq (·.pop)) hS2 rfl
    have oth : ∀ b o, b ≠ s.heap.objs.size → s1.heap.get? b = some o → ((s1.heap.update s.heap.objs.size (Obj.mapSeq (·.push Value.none))).update s.heap.objs.size (Obj.mapSeq (·.pop))).get? b = some o := fun b o hb e =>
      (Heap.get?_update_other _ _ (Ne.symm hb)).trans ((Heap.get?_update_other _ _ (Ne.symm hb)).trans e)
    have hit3 : RT.IsRt ((s1.heap.update s.heap.objs.size (Obj.mapSeq (·.push Value.none))).update s.heap.objs.size (Obj.mapSeq (·.pop))) it t ((items.size : Int) - 1) := hit1.at fun o e => oth _ _ (Ne.symm hSi) e
    have ht3 : IsTup ((s1.heap.update s.heap.objs.size (Obj.mapSeq (·.push Value.none))).update s.heap.objs.size (Obj.mapSeq (·.pop))) t items := ⟨ot, oth _ _ (Ne.symm hSt) (hp1 _ _ hot), hct⟩
    generalize hh3 : (s1.heap.update s.heap.objs.size (Obj.mapSeq (·.push Value.none))).update s.heap.objs.size (Obj.mapSeq (·.pop)) = h3 at hS3 oth hit3 ht3 ⊢
    refine wpAny_pure ⟨plainId_quiet F.plain_extend_loop _, codeAny_extend_loopS W hn _ hSf _ items.size 0 { s1 with heap := h3, toks := tk' } _ _ rfl (Nat.zero_le _) ⟨Nat.zero_le _, by rw [e0]; exact hit3, ht3⟩ hS3 (ItemsOf.nil _) fun s' acc' c' hm hS' hacc => ?_⟩
    change wpAny _ A (load s.heap.objs.size >>= _) _ _ s'
    refine wpAny_bind (wpAny_load hS' (wpAny_pure (hQ s' acc' ?_ hacc)))
    have hm2 : Moved (s.heap.objs.size :: [it]) (fun a b => b = a) { s1 with toks := tk' } s' := ⟨fun b o hb e => hm.heap b o hb (oth b o (fun z => hb (by simp [z])) e), hm.gens, hm.drawn, hm.os, hm.toks⟩
    subst hs1
    exact Moved.drop_new (o := { cls := .type "list", data := .seq ([] : List Value).toArray }) (tk := tk') hm2 htk
theorem code_tuple_rt {A : Around} {E : Value → Shared → Prop} {s : Shared} {it t : Addr} {items : Array Value} {Q : Value → Shared → Prop} (hh : A.handled = none) (hit : RT.IsRt s.heap it t ((items.size : Int) - 1)) (ht : IsTup s.heap t items) (hne : t ≠ it) (hn : items.size ≤ sizeLine)
    (h : ∀ (s' : Shared) (acc : Array Value), Moved [it] (fun a b => b = a) s s' → ItemsOf (fun i v => items[items.size - 1 - i]? = some v) acc items.size → Q (.ref s'.heap.objs.size) { s' with heap := s'.heap.push { cls := .type "tuple", data := .seq acc } }) :
    codeAny (model prog w) A (.call (.builtin "tuple.__new__") ⟨[.type "tuple", .ref it], []⟩) (wants Q E) s := by
  refine codeAny_of_tree ?_
  change wpAny _ A.in1 (do checkBuiltinCall "tuple.__new__" ⟨[.type "tuple", .ref it], []⟩; again (.builtin "tuple.__new__" ⟨[.type "tuple", .ref it], []⟩)) _ _ s
  refine wpAny_bind (wpAny_of_eq (F.newCall_tuple_1 _) (wpAny_pure ⟨plainId_quiet F.plain_tuple_new _, codeAny_builtin F.entry_tuple_new ?_⟩)); rw [Around.under_plainId F.plain_tuple_new _]
  have hsub := sub_tuple_self; have hinit := init_tuple_lookup; have hmh := madeHere_tuple
  have hTI : s.TypeIs (.ref it) "reversed" := hit.typeIs
  have hh1 : A.in1.handled = none := hh
  wp_walk using wpAny_typeOf hTI, collect_rt (A := A.in1) hh1 hit ht hne hn
  intro s' acc hm hacc
  have e : acc.toList.toArray = acc := by simp
  rw [e]
  change wpAny _ _ (Builtin.Tuple.tupleExact acc >>= fun v => ret v) _ _ _
  unfold Builtin.Tuple.tupleExact
  refine wpAny_bind (wpAny_newObj_type ?_ (by show acc.size ≤ sizeLine; rw [hacc.1]; exact hn)); refine wpAny_pure ?_
  exact h s' acc hm hacc
theorem call_tuple_rt {A : Around} {E : Value → Shared → Prop} {s : Shared} {it t : Addr} {items : Array Value} {Q : Value → Shared → Prop} (hh : A.handled = none) (hit : RT.IsRt s.heap it t ((items.size : Int) - 1)) (ht : IsTup s.heap t items) (hne : t ≠ it) (hn : items.size ≤ sizeLine)
    (h : ∀ (s' : Shared) (acc : Array Value), Moved [it] (fun a b => b = a) s s' → ItemsOf (fun i v => items[items.size - 1 - i]? = some v) acc items.size → Q (.ref s'.heap.objs.size) { s' with heap := s'.heap.push { cls := .type "tuple", data := .seq acc } }) :
    wpAny (model prog w) A (call (.type "tuple") [.ref it]) Q E s := by
  refine callType_codes (Q₁ := fun obj s1 => s1.TypeIs obj "tuple" ∧ Q obj s1) F.called_tuple (F.typeCall_tuple_1 _) F.entry_object_init (code_tuple_rt (A := A.in1) hh hit ht hne hn fun s' acc hm hacc => ⟨⟨_, Heap.get?_push_size _ rfl, rfl⟩, h s' acc hm hacc⟩) fun obj s1 h1 => ?_
  exact ⟨h1.1, F.args_object_init_2 obj _, object_init_meets F.called_tuple.init.lookup F.called_tuple.made (by decide) prog w A.in1 _ s1 ⟨h1.1, rfl, h1.2⟩⟩
end
section
variable {X : Cx} {e : Expr} {we : WE}
def tTupRevA (K : PySem.W.Frag) (te : TE) : TE := fun σ H Q => te σ H fun v H1 => ∃ (a : Addr) (xs : List V), v = .ref a ∧ (SqL K H1 a xs ∨ SqT K H1 a xs) ∧ ∀ q, H1 q = none → Q (.ref q) (upd H1 q (.tup xs.reverse))
theorem pe_tupRevA {te : TE} {p p2 pos pos2 : Pos} (hc : X.calm = true) (hg : Gl X "tuple") (hm : X.mg "tuple" = none) (hg2 : Gl X "reversed") (hm2 : X.mg "reversed" = none) (he : PE X e te)
    (hs : starEach [e] X.env = (false, eval e X.env) :: starEach [] X.env) (hs2 : starEach [.Call (.Name "reversed" p2) [e] [] pos2] X.env = (false, eval (.Call (.Name "reversed" p2) [e] [] pos2) X.env) :: starEach [] X.env) :
    PE X (.Call (.Name "tuple" p) [.Call (.Name "reversed" p2) [e] [] pos2] [] pos) (tTupRevA X.K te) := ⟨fun pins s σ H Q I h => by
  refine Call_ (ld_blt I hg hm boot_tuple (PyProof.Rows.callWith_type1 (args_cons (Call_ (ld_blt I hg2 hm2 PyProof.Rows.boot_reversed (PyProof.Rows.callWith_type1 (args_cons (thn (he.run pins s σ H _ I h) fun u s1 hh => args_nil ?_) hs) hs rfl))) hs2) hs2 rfl))
  obtain ⟨v, H1, I1, r1, a, xs, ev, hq, q⟩ := hh
  subst ev
  cases (show u = Value.ref a from r1)
  have hfree : H1 s1.heap.objs.size = none := I1.hok.fresh (Nat.le_refl _)
  obtain ⟨f0, f1, f2, f3, f4, f5⟩ := I1.fpOk (H' := H1) (b := s1.heap.objs.size) (Nat.le_refl _) hfree
  rcases hq with hq | hq
  · obtain ⟨its, rv, p', hz⟩ := I1.list hq
    refine call_reversed_list p'.isList (args_nil ?_)
    have I2 : Inv X pins σ H1 { s1 with heap := s1.heap.push (revObj a ((its.toArray.size : Int) - 1)) } := I1.kept (t' := s1.toks) fun b o e => Heap.get?_push_of_some _ e
    obtain ⟨ol, hol, _⟩ := id p'.isList
    have hn : its.toArray.size ≤ sizeLine := by rw [List.size_toArray, ← rv.length]; exact hz
    refine RT.call_tuple_rev (s := { s1 with heap := s1.heap.push (revObj a ((its.toArray.size : Int) - 1)) }) (I1.ok.hd hc) ⟨_, Heap.get?_push_size _ rfl, rfl, rfl⟩ (p'.isList.push _) (Nat.ne_of_lt (Heap.lt_size hol)) hn fun h' tk acc hk hi => ?_
    have I3 : Inv X pins σ H1 { s1 with heap := h', toks := tk } := I2.turned (t' := tk) (fun b o hb e => hk b o hb e) f0 f1 f3 f4 f5
    exact ⟨.ref h'.objs.size, upd H1 h'.objs.size (.tup xs.reverse), I3.laid (t' := tk) (fun c o e => Heap.get?_push_of_some _ e) (Nat.le_refl _) (show ObjOk X.prog X.w _ _ _ (.tup xs.reverse) from ⟨by rw [List.length_reverse]; exact hz, acc.toList, RT.vals_rev rv hi, by rw [Array.toArray_toList]; exact IsTup.new _ _⟩), rfl, q _ (I3.hok.fresh (Nat.le_refl _))⟩
  · obtain ⟨its, rv, p', hz⟩ := I1.tuple hq
    have hl := rv.length
    have hn := line63
    have hsz : its.toArray.size ≤ sizeLine := by rw [List.size_toArray, ← rv.length]; exact hz
    refine RT.call_reversed_tup p' (fun A E Q k => len_tuple p' (by simp only [List.size_toArray] <;> omega) k) (args_nil ?_)
    have I2 : Inv X pins σ H1 { s1 with heap := s1.heap.push (RT.rtObj a ((its.toArray.size : Int) - 1)), toks := s1.toks + 1 + 1 } := I1.kept (t' := s1.toks + 1 + 1) fun b o e => Heap.get?_push_of_some _ e
    obtain ⟨ot, hot, hct⟩ := id p'
    refine call_tuple_rt (s := { s1 with heap := s1.heap.push (RT.rtObj a ((its.toArray.size : Int) - 1)), toks := s1.toks + 1 + 1 }) (I1.ok.hd hc) ⟨_, Heap.get?_push_size _ rfl, rfl, rfl⟩ ⟨ot, Heap.get?_push_of_some _ hot, hct⟩ (Nat.ne_of_lt (Heap.lt_size hot)) hsz fun s' acc hm hi => ?_
    obtain ⟨h', g', d', t', o'⟩ := s'
    have ed : d' = s1.drawn := hm.drawn
    have eo : o' = s1.os := hm.os
    subst ed eo
    have eg : g' = s1.gens := hm.gens
    subst eg
    have I3 : Inv X pins σ H1 { s1 with heap := h', toks := t' } := I2.turned (t' := t') (fun b o hb e => hm.heap b o (by simpa using hb) e) f0 f1 f3 f4 f5
    exact ⟨.ref h'.objs.size, upd H1 h'.objs.size (.tup xs.reverse), I3.laid (t' := t') (fun c o e => Heap.get?_push_of_some _ e) (Nat.le_refl _) (show ObjOk X.prog X.w _ _ _ (.tup xs.reverse) from ⟨by rw [List.length_reverse]; exact hz, acc.toList, RT.vals_rev rv hi, by rw [Array.toArray_toList]; exact IsTup.new _ _⟩), rfl, q _ (I3.hok.fresh (Nat.le_refl _))⟩⟩
/-- tuple(reversed(e)), e a list or a tuple -/
def wTupRev (we : WE) : WE := fun env h Q Qx => we env h (fun d h1 => ItQ h1 d fun xs => Q (.tup xs.reverse) h1) Qx
theorem de_tupRev {p p2 pos pos2 : Pos} (hg : Gl X "tuple") (hm : X.mg "tuple" = none) (hg2 : Gl X "reversed") (hm2 : X.mg "reversed" = none) (he : DE X e we) (hc : X.calm = true := by rfl)
    (hs : starEach [e] X.env = (false, eval e X.env) :: starEach [] X.env := by rfl) (hs2 : starEach [.Call (.Name "reversed" p2) [e] [] pos2] X.env = (false, eval (.Call (.Name "reversed" p2) [e] [] pos2) X.env) :: starEach [] X.env := by rfl) :
    DE X (.Call (.Name "tuple" p) [.Call (.Name "reversed" p2) [e] [] pos2] [] pos) (wTupRev we) :=
  ⟨fun W ck => (pe_tupRevA hc hg hm hg2 hm2 (he.ok W ck) hs hs2).imp fun σ H Q ⟨env, h, Qn, Qx, rs, rw_, q, kq, kx⟩ => ⟨env, h, _, Qx, rs, rw_, q, fun d h1 v H1 p1 r1 rd q1 => by
    obtain ⟨xs, e1, q2⟩ := q1.get
    obtain ⟨a, vs, rfl, s, r⟩ := items_ok rd r1 e1
    exact ⟨a, vs, rfl, s, fun p hp => kq _ h1 _ _ (p1.trans (Pe.new hp)) (r1.beside hp) (.tup upd_same (r.reverse.mono (Pe.new hp))) q2⟩, kx⟩⟩
end
end DL
namespace DL
open PySem PySem.Spec PyProof.Rows L2
/-! short names -/
abbrev gMinus : G2 := gI0 fun i j => .int (i - j)
abbrev gFdiv : G2 := gI CDiv fun i j => .int (i / j)
abbrev gMod : G2 := gI (fun _ j => 0 < j) fun i j => .int (i % j)
abbrev gPow : G2 := gI CPow fun i j => .int (i ^ j.toNat)
abbrev gShl : G2 := gI CPow fun i j => .int (i * 2 ^ j.toNat)
abbrev gShr : G2 := gI (fun _ j => 0 ≤ j) fun i j => .int (i / 2 ^ j.toNat)
abbrev gBand : G2 := gI0 fun i j => .int (Builtin.bitAnd i j)
abbrev gLt : G2 := gI0 fun i j => .bl (decide (i < j))
abbrev gLe : G2 := gI0 fun i j => .bl (decide (i ≤ j))
abbrev gGt : G2 := gI0 fun i j => .bl (decide (j < i))
abbrev gGe : G2 := gI0 fun i j => .bl (decide (j ≤ i))
section
variable {X : Cx} {x : Str} {i : Int} {pos : Pos}
/-- a module's int -/
theorem de_gint (hm : ∃ t, X.mg x = some (.int i t)) (hg : Gl X x := by rfl) (hd : (x == ("__debug__" : Str)) = false := by decide) : DE X (.Name x pos) (wC (.int i)) := by
  obtain ⟨t, hm⟩ := hm
  exact de_const (v := .int i) (pe_glob hg hm ⟨t, rfl⟩ hd) fun _ => .int i
end
section
variable {P : Program} {w : World} {K : PySem.W.Frag} {mg : Str → Option Value} {base : Heap}
/-- a def of which nothing is asked -/
theorem fnD_none {k : Nat} {f : Addr} {fd : FuncData} {ps : List Str} : FnD P w K mg base k f fd ps (fun _ _ _ _ => False) :=
  ⟨fun _ _ _ _ ⟨_, _, _, _, _, _, _, z, _⟩ => z.elim, fun _ _ _ _ _ _ _ _ _ _ _ _ _ ⟨_, _, _, _, _, _, _, z, _⟩ => z.elim⟩
theorem ar_false {n : Nat} : Ar n (fun _ _ _ _ => False) := fun _ _ _ _ z => z.elim
/-- the end: the law's worth, at the script -/
def spLaw (K : PySem.W.Frag) : Sp := fun vs H Q _ => ∃ (a : Addr) (ns : List Int), vs = [.ref a] ∧ StL K H a (ns.map V.int) ∧ ns.length ≤ 63 ∧ ∀ H', Q (.bl true) H'
theorem law_of {k : Nat} {f : Addr} {fd : FuncData} {wf : WF} (F : FnD P w K mg base k f fd ["script"] wf) (h : ∀ ns : List Int, ns.length ≤ 63 → wf [.sl (ns.map D.int)] (fun _ => none) (fun d _ => d = .bl true) (fun _ _ => False)) :
    FnOk P w K mg base (L2.CX P w) k f fd ["script"] (spLaw K) :=
  FnOk.imp F fun vs H Q E ⟨a, ns, e, st, hl, q⟩ => by
    subst e
    refine ⟨rfl, [.sl (ns.map D.int)], fun _ => none, _, _, .cons (.sl st (RDs.ints ns)) .nil, fun _ _ z => (nomatch z), h ns hl, fun d h' v H' p r rd e => ?_, fun _ _ _ _ _ _ _ _ z => z.elim⟩
    subst e
    cases rd
    exact q H'
theorem stL_only {K : PySem.W.Frag} {H : Hp} {a : Addr} {xs : List V} (o : Only H) (s : SqL K H a xs) : StL K H a xs := by
  rcases s with (s | s) | s
  · rcases o a with z | ⟨_, _, z⟩ <;> (rw [s] at z; cases z)
  · exact .inl s
  · exact .inr s
/-- the row's walk, from the law's worth -/
theorem walk_law {l : PySem.W.OpenLaw} {k : Nat} {q : Program} {loose : List Str} {XP : (Str → Option Value) → Heap → Prop} {YP : World → Heap → Prop} {d : DefRec} {K : Params → PySem.W.Frag} (hn : l.most = some 63) (hdf : d.params.defaults = []) (hr : Room k callerA)
    (hY : ∀ (w : World) (h : Heap), YP w h → (K w.params).In h)
    (F : ∀ (w : World) (mg : Str → Option Value) (fa : Addr) (h : Heap), (K w.params).In h → h.Ns mainGlobals mg → mg d.name = some (.ref fa) →
      ∃ fd : FuncData, (∀ (s : Shared) (u : Value), BindsTo s fd ⟨[u], []⟩ [("script", u)]) ∧ ∀ base : Heap, (K w.params).In base → base.Ns mainGlobals mg → FnOk l.prog w (K w.params) mg base (L2.CX l.prog w) k fa fd ["script"] (spLaw (K w.params))) :
    PySem.W.WalkO q loose XP YP l.row.toRowW d [] (fun f vs => PySem.call f vs) :=
  L2.walk_of (n := 63) (k := k) (x := "script") (K := K) (CX := fun w => L2.CX l.prog w) (sp := fun w => spLaw (K w.params)) hn (by decide) hdf hr hY F (fun _ H a ns hl o hS => ⟨a, ns, rfl, stL_only o hS, hl, fun _ => rfl⟩)
    fun w H s e s' h => by obtain ⟨_, _, _, _, _, _, _, _, _, _, _, _, z⟩ := h; exact z.elim
end
end DL
namespace DL
open PySem PySem.Spec PyProof.Rows L2
/-! ### reckoning of worths, one statement at a time -/
theorem seq_i {s1 s2 : WS} {E : En} {env : Ev} {h : DH} (H : ∀ N : Ev → DH → Prop, (∀ e h', s2 E e h' → N e h') → s1 ⟨N, E.rt, E.bk, E.ct, E.rx⟩ env h) : wSeq s1 s2 E env h := H _ fun _ _ q => q
theorem def_i {np nn : Nat} {w : WS} {ds : List D} {h : DH} {Q : QD} {Qx : QX} (hl : ds.length = np)
    (H : ∀ E : En, (∀ d h' h2, Sub h2 h' → Q d h2 → E.rt d h') → (∀ x e h' h2, Sub h2 h' → Qx x h2 → E.rx x e h') → (∀ e h' h2, Sub h2 h' → Q .non h2 → E.nx e h') → w E (ds.map some ++ List.replicate (nn - np) none) h) : wDef np nn w ds h Q Qx :=
  ⟨hl, H _ (fun _ _ h2 s q => ⟨h2, s, q⟩) (fun _ _ _ h2 s q => ⟨h2, s, q⟩) (fun _ _ h2 s q => ⟨h2, s, q⟩)⟩
theorem for_ix {gd : DH → Prop} {g : WG} {b : WS} {E : En} {xs : List D} (I : Nat → Ev → DH → Prop) (hn : ∀ env h, I xs.length env h → E.nx env h)
    (hs : ∀ (i : Nat) (x : D) env h (N : Ev → DH → Prop), xs[i]? = some x → I i env h → (∀ e2 h2, gd h2 → I (i + 1) e2 h2 → N e2 h2) → g x env h fun e1 h1 => b ⟨N, E.rt, E.nx, N, E.rx⟩ e1 h1) :
    ∀ (env : Ev) (h : DH), I 0 env h → forW gd g b E xs env h := by
  have go : ∀ (ys : List D) (i : Nat), ys = xs.drop i → i ≤ xs.length → ∀ env h, I i env h → forW gd g b E ys env h := by
    intro ys
    induction ys with
    | nil =>
      intro i e hi env h hI
      have : xs.length ≤ i := by simpa using e.symm
      have z : i = xs.length := by omega
      subst z
      exact hn env h hI
    | cons y ys ih =>
      intro i e hi env h hI
      have hlt : i < xs.length := by
        rcases Nat.lt_or_ge i xs.length with q | q
        · exact q
        · rw [List.drop_eq_nil_of_le q] at e; cases e
      have e1 := List.drop_eq_getElem_cons hlt
      rw [e1] at e
      obtain ⟨e2, e3⟩ := List.cons.inj e
      have hx : xs[i]? = some y := by rw [List.getElem?_eq_getElem hlt, e2]
      exact hs i y env h _ hx hI fun e2 h2 gd2 I2 => ⟨gd2, ih (i + 1) e3 (by omega) e2 h2 I2⟩
  exact fun env h hI => go xs 0 (by simp) (by omega) env h hI
theorem upto_len (lo : Int) (n : Nat) : (upto lo n).length = n := by simp [upto]
theorem for_up {g : WG} {b : WS} {E : En} {n : Nat} (I : Nat → Ev → DH → Prop) (hn : ∀ env h, I n env h → E.nx env h)
    (hs : ∀ (i : Nat) env h (N : Ev → DH → Prop), i < n → I i env h → (∀ e2 h2, I (i + 1) e2 h2 → N e2 h2) → g (.int (i : Nat)) env h fun e1 h1 => b ⟨N, E.rt, E.nx, N, E.rx⟩ e1 h1) {env : Ev} {h : DH} (h0 : I 0 env h) :
    forW (fun _ => True) g b E (upto 0 n) env h := by
  refine for_ix (xs := upto 0 n) I (fun env h hI => hn env h (by rwa [upto_len] at hI)) (fun i x env h N hx hI hN => ?_) env h h0
  obtain ⟨hi, rfl⟩ := upto_get hx
  rw [Int.zero_add]
  exact hs i env h N hi hI fun e2 h2 I2 => hN e2 h2 trivial I2
theorem while_m {c : WT} {b : WS} {E : En} (I : Nat → Ev → DH → Prop)
    (hs : ∀ (m : Nat) env h (N : Ev → DH → Prop), I m env h → (∀ m' e2 h2, m' < m → I m' e2 h2 → N e2 h2) → c env h (fun k h1 => if k = true then b ⟨N, E.rt, E.nx, N, E.rx⟩ env h1 else E.nx env h1) (fun x h1 => E.rx x env h1)) :
    ∀ (n m : Nat) env h, m < n → I m env h → whileW c b E n env h := by
  intro n
  induction n with
  | zero => intro m env h hm; omega
  | succ n ih =>
    intro m env h hm hI
    exact hs m env h _ hI fun m' e2 h2 hlt I2 => ih m' e2 h2 (by omega) I2
theorem while_i {c : WT} {b : WS} {E : En} (I : Nat → Ev → DH → Prop) (m : Nat)
    (hs : ∀ (m : Nat) env h (N : Ev → DH → Prop), I m env h → (∀ m' e2 h2, m' < m → I m' e2 h2 → N e2 h2) → c env h (fun k h1 => if k = true then b ⟨N, E.rt, E.nx, N, E.rx⟩ env h1 else E.nx env h1) (fun x h1 => E.rx x env h1))
    {env : Ev} {h : DH} (h0 : I m env h) : wWhile c b E env h := ⟨m + 1, while_m I hs (m + 1) m env h (by omega) h0⟩
section
variable {env : Ev} {h : DH} {Q : QD} {Qx : QX} {i : Nat} {a : Option D} {d : D} {E : En}
theorem zVS : wVar (i + 1) (a :: env) h Q Qx = wVar i env h Q Qx := rfl
theorem zVZ : wVar 0 (some d :: env) h Q Qx = Q d h := rfl
theorem zSS {l : Ev} : List.set (a :: l) (i + 1) (some d) = a :: List.set l i (some d) := rfl
theorem zSZ {l : Ev} : List.set (a :: l) 0 (some d) = some d :: l := rfl
theorem exSub {h' : DH} (q : Q d h') : ∃ h2, Sub h2 h' ∧ Q d h2 := ⟨h', .refl _, q⟩
theorem zItems_r {p : Addr} : items h (.ref p) = (match h p with | some (.lst xs) => some xs | _ => none) := rfl
theorem zItems_t {xs : List D} : items h (.tup xs) = some xs := rfl
theorem zItems_s {xs : List D} : items h (.sl xs) = some xs := rfl
theorem zItQ_i {d : D} {k : List D → Prop} : ItQ h d k = (match items h d with | some ys => k ys | none => False) := rfl
theorem zLenQ_r {p : Addr} {k : Nat → Prop} : LenQ h (.ref p) k = (match items h (.ref p) with | some ys => k ys.length | none => False) := rfl
theorem zLenQ_tup {xs : List D} {k : Nat → Prop} : LenQ h (.tup xs) k = k xs.length := rfl
theorem zLenQ_sl {xs : List D} {k : Nat → Prop} : LenQ h (.sl xs) k = k xs.length := rfl
theorem zLstQ_r {p : Addr} {k : Addr → List D → Prop} : lstQ h (.ref p) k = (match h p with | some (.lst xs) => k p xs | _ => False) := rfl
theorem zGIx_r {p : Addr} {i : Int} : gIx (.ref p) (.int i) h Q = (match h p with | some (.lst xs) => QAt h Q (atI xs i) | _ => False) := rfl
theorem zGIx_tup {xs : List D} {i : Int} : gIx (.tup xs) (.int i) h Q = QAt h Q (atI xs i) := rfl
theorem zGIx_sl {xs : List D} {i : Int} : gIx (.sl xs) (.int i) h Q = QAt h Q (atI xs i) := rfl
theorem zGSl_r {p : Addr} {lo hi : Option Int} : gSl (.ref p) lo hi h Q = (match h p with | some (.lst xs) => NewL h (cutD xs lo hi) Q | _ => False) := rfl
theorem zGSl_tup {xs : List D} {lo hi : Option Int} : gSl (.tup xs) lo hi h Q = Q (.tup (cutD xs lo hi)) h := rfl
theorem zGRev_r {p : Addr} : gRev (.ref p) h Q = (match h p with | some (.lst xs) => NewL h xs.reverse Q | _ => False) := rfl
theorem zGRev_tup {xs : List D} : gRev (.tup xs) h Q = Q (.tup xs.reverse) h := rfl
theorem zSrcQ_r {p : Addr} {k : Src → Prop} : srcQ h (.ref p) k = (match h p with | some (.lst xs) => k ⟨xs, fun h' => h' p = some (.lst xs)⟩ | _ => False) := rfl
theorem zSrcQ_tup {xs : List D} {k : Src → Prop} : srcQ h (.tup xs) k = k ⟨xs, fun _ => True⟩ := rfl
theorem zTyQ_r {p : Addr} {k : String → Prop} : TyQ h (.ref p) k = (match (match h p with | some (.lst _) => some "list" | some (.dK _) => some "dict" | some (.dT _) => some "dict" | _ => none) with | some t => k t | none => False) := by
  unfold TyQ tyD
  rfl
theorem zFldQ_r {p : Addr} {m : Str} {k : D → Prop} : fldQ h (.ref p) m k = (match h p with | some (.ins C fs) => (match fs.lookup m with | some v => k v | none => False) | _ => False) := rfl
theorem zQAt_some {d : D} : QAt h Q (some d) = Q d h := rfl
theorem zGAdd_int {i j : Int} : gAdd (.int i) (.int j) h Q = Q (.int (i + j)) h := rfl
theorem zGAdd_tup {xs ys : List D} : gAdd (.tup xs) (.tup ys) h Q = (xs.length + ys.length ≤ sizeLine ∧ Q (.tup (xs ++ ys)) h) := rfl
theorem zGI_int {C : Int → Int → Prop} {g : Int → Int → D} {i j : Int} : gI C g (.int i) (.int j) h Q = (C i j ∧ Q (g i j) h) := rfl
theorem zGTimes_int {i j : Int} : gTimes (.int i) (.int j) h Q = (CMul i j ∧ Q (.int (i * j)) h) := rfl
theorem zGTimes_tup {xs : List D} {k : Int} : gTimes (.tup xs) (.int k) h Q = ((0 ≤ k ∧ k ≤ 1000 ∧ xs.length ≤ 1000) ∧ Q (.tup (List.replicate k.toNat xs).flatten) h) := rfl
theorem zGEq_bl {neg : Bool} {i j : Bool} : gEq neg (.bl i) (.bl j) h Q = Q (.bl (if neg = true then !decide (i = j) else decide (i = j))) h := by
  have e : PyData.eqv (.bool i) (.bool j) = decide (i = j) := by
    show (i == j) = decide (i = j)
    cases i <;> cases j <;> rfl
  show (SeqAt.shaped (.bool i) = true ∧ SeqAt.shaped (.bool j) = true ∧ _) = _
  rw [e]
  have s1 : ∀ i, SeqAt.shaped (.bool i) = true := fun _ => rfl
  rw [s1, s1]
  simp
theorem zGI0_int {g : Int → Int → D} {i j : Int} : gI0 g (.int i) (.int j) h Q = Q (g i j) h := rfl
theorem zGIs_non {neg : Bool} : gIs neg .non .non h Q = Q (.bl (!neg)) h := rfl
theorem zGIs_int {neg : Bool} {i : Int} : gIs neg (.int i) .non h Q = Q (.bl neg) h := rfl
theorem zGIs_tup {neg : Bool} {xs : List D} : gIs neg (.tup xs) .non h Q = Q (.bl neg) h := rfl
theorem zGIs_ref {neg : Bool} {p : Addr} : gIs neg (.ref p) .non h Q = Q (.bl neg) h := rfl
theorem zGIs_str {neg : Bool} {p : Str} : gIs neg (.str p) .non h Q = Q (.bl neg) h := rfl
theorem zGIs_bl {neg a b : Bool} : gIs neg (.bl a) (.bl b) h Q = Q (.bl (if neg = true then !decide (a = b) else decide (a = b))) h := rfl
theorem zGIs_bln {neg a : Bool} : gIs neg (.bl a) .non h Q = Q (.bl neg) h := rfl
theorem zGEq_int {neg : Bool} {i j : Int} : gEq neg (.int i) (.int j) h Q = Q (.bl (if neg = true then !decide (i = j) else decide (i = j))) h := by
  have e : PyData.eqv (.int i) (.int j) = decide (i = j) := by
    show (i == j) = decide (i = j)
    by_cases q : i = j <;> simp [q]
  show (SeqAt.shaped (.int i) = true ∧ SeqAt.shaped (.int j) = true ∧ _) = _
  rw [e]
  have s1 : ∀ i, SeqAt.shaped (.int i) = true := fun _ => rfl
  rw [s1, s1]
  simp
theorem zTyQ_int {i : Int} {k : String → Prop} : TyQ h (.int i) k = k "int" := rfl
theorem zTyQ_non {k : String → Prop} : TyQ h .non k = k "NoneType" := rfl
theorem zTyQ_bl {b : Bool} {k : String → Prop} : TyQ h (.bl b) k = k "bool" := rfl
theorem zTyQ_str {b : Str} {k : String → Prop} : TyQ h (.str b) k = k "str" := rfl
theorem zTyQ_tup {xs : List D} {k : String → Prop} : TyQ h (.tup xs) k = k "tuple" := rfl
theorem atN {α : Type} {xs : List α} {i : Nat} : atI xs (i : Int) = xs[i]? := by
  unfold atI ixN
  by_cases q : i < xs.length
  · have e1 : ¬ ((i : Int) < 0) := by omega
    simp [e1, q]
  · have e1 : ¬ ((i : Int) < 0) := by omega
    simp [e1, q]
theorem atI_lt {α : Type} {xs : List α} {z : Int} (h0 : 0 ≤ z) : atI xs z = xs[z.toNat]? := by
  obtain ⟨n, rfl⟩ := Int.eq_ofNat_of_zero_le h0
  rw [Int.toNat_natCast]; exact atN
section
variable {wa wb we wo : WE} {ws : WA} {wt ta tb : WT} {wi : WI} {g : WG} {gs : WGs} {g2 : G2} {w1 w2 : WS} {m : Str} {T : String} {Cs : List Addr} {C : Addr} {wf : WF} {QT : Bool → DH → Prop} {QA : List D → DH → Prop} {QO : Option Int → DH → Prop} {ds : List D} {QG : Ev → DH → Prop}
theorem zESet : wSet i we E env h = we env h (fun d h1 => E.nx (env.set i (some d)) h1) (fun x h1 => E.rx x env h1) := rfl
theorem zEExpr : wExpr we E env h = we env h (fun _ h1 => E.nx env h1) (fun x h1 => E.rx x env h1) := rfl
theorem zERet : wRet we E env h = we env h E.rt (fun x h1 => E.rx x env h1) := rfl
theorem zERetN : wRetN E env h = E.rt .non h := rfl
theorem zENext : wNext E env h = E.nx env h := rfl
theorem zEPass : wPass E env h = E.nx env h := rfl
theorem zEBrk : wBrk E env h = E.bk env h := rfl
theorem zECnt : wCnt E env h = E.ct env h := rfl
theorem zEIfS : wIfS wt w1 w2 E env h = wt env h (fun b h1 => if b = true then w1 E env h1 else w2 E env h1) (fun x h1 => E.rx x env h1) := rfl
theorem zEAsg : wAsg we g E env h = we env h (fun d h1 => g d env h1 E.nx) (fun x h1 => E.rx x env h1) := rfl
theorem zEFor : wFor wi g w1 E env h = wi env h (fun s h1 => s.gd h1 ∧ forW s.gd g w1 E s.xs env h1) (fun x h1 => E.rx x env h1) := rfl
theorem zEFldS : wFldS Cs wo we m E env h = we env h (fun d h1 => wo env h1 (fun o h2 => ∃ a C fs, o = .ref a ∧ h2 a = some (.ins C fs) ∧ C ∈ Cs ∧ fs.length < 1000 ∧ E.nx env (dup h2 a (.ins C (putD m d fs)))) (fun x h1 => E.rx x env h1)) (fun x h1 => E.rx x env h1) := rfl
theorem zERaise : wRaise C E env h = E.rx (.own C) env h := rfl
theorem zEAugI {f : Int → Int → Int} : wAugI i f we E env h = wVar i env h (fun d _ => match d with
  | .int a => we env h (fun d h1 => match d with
    | .int b => E.nx (env.set i (some (.int (f a b)))) h1
    | _ => False) (fun x h1 => E.rx x env h1)
  | _ => False) (fun _ _ => False) := by
  unfold wAugI wVar
  cases env[i]? with
  | none => rfl
  | some o =>
    cases o with
    | none => rfl
    | some d => cases d <;> rfl
theorem zEC : wC d env h Q Qx = Q d h := rfl
theorem zENil : wNil env h QA Qx = QA [] h := rfl
theorem zECons : wCons wa ws env h QA Qx = wa env h (fun d h1 => ws env h1 (fun ds h2 => QA (d :: ds) h2) Qx) Qx := rfl
theorem zETup : wTup ws env h Q Qx = ws env h (fun ds h1 => ds.length ≤ sizeLine ∧ Q (.tup ds) h1) Qx := rfl
theorem zELst : wLst ws env h Q Qx = ws env h (fun ds h1 => ds.length ≤ sizeLine ∧ NewL h1 ds Q) Qx := rfl
theorem zEOp2 : wOp2 g2 wa wb env h Q Qx = wa env h (fun x h1 => wb env h1 (fun y h2 => g2 x y h2 Q) Qx) Qx := rfl
theorem zEB : wB we env h QT Qx = we env h (fun d h1 => match d with
  | .bl b => QT b h1
  | _ => False) Qx := rfl
theorem zETru : wTru we env h QT Qx = we env h (fun d h1 => Tru d h1 QT) Qx := rfl
theorem zTBl {b : Bool} : Tru (.bl b) h QT = QT b h := rfl
theorem zTNon : Tru .non h QT = QT false h := rfl
theorem zTInt {i : Int} : Tru (.int i) h QT = QT (i != 0) h := rfl
theorem zTTup {xs : List D} : Tru (.tup xs) h QT = QT (!xs.isEmpty) h := rfl
theorem zEAnd : wAnd ta tb env h QT Qx = ta env h (fun c h1 => if c = true then tb env h1 QT Qx else QT false h1) Qx := rfl
theorem zEOr : wOr ta tb env h QT Qx = ta env h (fun c h1 => if c = true then QT true h1 else tb env h1 QT Qx) Qx := rfl
theorem zENot : wNot ta env h QT Qx = ta env h (fun c h1 => QT (!c) h1) Qx := rfl
theorem zEAndV : wAndV wa wb env h Q Qx = wa env h (fun d h1 => match d with
  | .bl c => if c = true then wb env h1 Q Qx else Q (.bl false) h1
  | _ => False) Qx := rfl
theorem zEOrV : wOrV wa wb env h Q Qx = wa env h (fun d h1 => match d with
  | .bl c => if c = true then Q (.bl true) h1 else wb env h1 Q Qx
  | _ => False) Qx := rfl
theorem zENotV : wNotV wa env h Q Qx = wa env h (fun d h1 => match d with
  | .bl c => Q (.bl (!c)) h1
  | _ => False) Qx := rfl
theorem zEIf : wIf wt wa wb env h Q Qx = wt env h (fun c h1 => if c = true then wa env h1 Q Qx else wb env h1 Q Qx) Qx := rfl
theorem zEIsi : wIsi we T env h Q Qx = we env h (fun d h1 => TyQ h1 d fun t => Q (.bl (isiB t T)) h1) Qx := rfl
theorem zECB {gc : GC} : wCB gc ws env h Q Qx = ws env h (fun ds h1 => gc ds h1 Q) Qx := rfl
theorem zECall : wCall wf ws env h Q Qx = ws env h (fun ds h1 => wf ds h1 Q Qx) Qx := rfl
theorem zEFld : wFld Cs wo m env h Q Qx = wo env h (fun d h1 => fldQ h1 d m (fun v => Q v h1) ∧ ∀ a C fs, d = .ref a → h1 a = some (.ins C fs) → C ∈ Cs) Qx := rfl
theorem zEMeth : wMeth C m wf wo ws env h Q Qx = wo env h (fun d h1 => insQ h1 d C m ∧ ws env h1 (fun ds h2 => wf (d :: ds) h2 Q Qx) Qx) Qx := rfl
theorem zEMake : wMake C wf ws env h Q Qx = ws env h (fun ds h1 => ∀ p, h1 p = none → wf (.ref p :: ds) (dup h1 p (.ins C [])) (fun v h2 => v = .non ∧ Q (.ref p) h2) Qx) Qx := rfl
theorem zEAppend : wAppend wo ws env h Q Qx = wo env h (fun d h1 => lstQ h1 d (fun _ _ => True) ∧ ws env h1 (fun ds h2 => One (fun x => lstQ h2 d fun a xs => xs.length < sizeLine ∧ Q .non (dup h2 a (.lst (xs ++ [x])))) ds) Qx) Qx := rfl
theorem zEPop : wPop wo env h Q Qx = wo env h (fun d h1 => lstQ h1 d fun a xs => QAt (dup h1 a (.lst xs.dropLast)) Q xs[xs.length - 1]?) Qx := rfl
theorem zESl {wl wh : WO} : wSl we wl wh env h Q Qx = we env h (fun x h1 => wl env h1 (fun lo h2 => wh env h2 (fun hi h3 => gSl x lo hi h3 Q) Qx) Qx) Qx := rfl
theorem zENoP : wNoP env h QO Qx = QO none h := rfl
theorem zEPart : wPart we env h QO Qx = we env h (fun d h1 => match d with
  | .int i => QO (some i) h1
  | _ => False) Qx := rfl
theorem zENeg : wNeg we env h Q Qx = we env h (fun d h1 => match d with
  | .int i => Q (.int (-i)) h1
  | _ => False) Qx := rfl
theorem zERev : wRev we env h Q Qx = we env h (fun x h1 => gRev x h1 Q) Qx := rfl
theorem zETupRev : wTupRev we env h Q Qx = we env h (fun d h1 => ItQ h1 d fun xs => Q (.tup xs.reverse) h1) Qx := rfl
theorem zEChain {g g' : G2} {wc : WE} : wChain g g' wa wb wc env h Q Qx = wa env h (fun x h1 => wb env h1 (fun y h2 => g x y h2 fun z h3 => match z with
  | .bl k => if k = true then wc env h3 (fun w h4 => g' y w h4 Q) Qx else Q (.bl false) h3
  | _ => False) Qx) Qx := rfl
theorem zEItems {QI : Src → DH → Prop} : wItems we env h QI Qx = we env h (fun d h1 => srcQ h1 d fun s => QI s h1) Qx := rfl
theorem zERng1 {QI : Src → DH → Prop} : wRng1 ws env h QI Qx = ws env h (fun ds h1 => match ds with
  | [.int j] => -(2 ^ 62) ≤ j ∧ j < 2 ^ 62 ∧ QI ⟨upto 0 j.toNat, fun _ => True⟩ h1
  | _ => False) Qx := rfl
theorem zERng2 {QI : Src → DH → Prop} : wRng2 ws env h QI Qx = ws env h (fun ds h1 => match ds with
  | [.int i, .int j] => (-(2 ^ 62) ≤ i ∧ i < 2 ^ 62 ∧ -(2 ^ 62) ≤ j ∧ j < 2 ^ 62) ∧ QI ⟨upto i (j - i).toNat, fun _ => True⟩ h1
  | _ => False) Qx := rfl
theorem zELc : wLc wi i wt we env h Q Qx = wi env h (fun s h1 => ∀ p, h1 p = none → s.gd (dup h1 p (.lst [])) ∧ lcW p s.gd i wt we env (fun h2 => Q (.ref p) h2) s.xs (dup h1 p (.lst []))) Qx := rfl
theorem zELen {xs : List D} : gLen xs h Q = One (fun d => LenQ h d fun n => Q (.int n) h) xs := rfl
theorem zEOne {P : D → Prop} : One P [d] = P d := rfl
theorem zEAbs {j : Int} : gAbs [.int j] h Q = Q (.int (if j < 0 then -j else j)) h := rfl
theorem zEIntC {j : Int} : gIntC [.int j] h Q = Q (.int j) h := rfl
theorem zEListC {xs : List D} : gListC xs h Q = One (fun d => ItQ h d fun ys => NewL h ys Q) xs := rfl
theorem zETupC {xs : List D} : gTupC xs h Q = One (fun d => ItQ h d fun ys => Q (.tup ys) h) xs := rfl
theorem zEMaxT {xs : List D} : gMaxT [.tup xs] h Q = (match intsOf xs with
    | some (n :: ns) => Q (.int (maxI n ns)) h
    | _ => False) := rfl
theorem zEIsE {a : Addr} {b : Bool} : wIsE i a b env h Q Qx = (env[i]? = some (some (.ref a)) ∧ Q (.bl b) h) := rfl
theorem zETry {wb : WS} {cm : List (Addr × Bool)} {wsu : Addr → XC → WS} : wTry wb cm i wsu E env h = wb { E with rx := fun x e' h' => (∃ b, (x.cls, b) ∈ cm ∧ if b = true then ∀ a, wsu a x { nx := fun e2 h2 => E.nx (e2.set i none) h2, rt := E.rt, bk := fun e2 h2 => E.bk (e2.set i none) h2, ct := fun e2 h2 => E.ct (e2.set i none) h2, rx := fun _ _ _ => False } (e'.set i (some (.ref a))) h' else E.rx x e' h') } env h := rfl
theorem zEPar {i j : Nat} : wPar i j ws E env h = ws env h (fun ds h1 => match ds with
  | [x, y] => E.nx ((env.set i (some x)).set j (some y)) h1
  | _ => False) (fun x h1 => E.rx x env h1) := rfl
theorem zEYes : wYes env h QT Qx = QT true h := rfl
theorem zEAllL {f : List Bool → Bool} {p : Addr} : gAllL f [.ref p] h Q = (match h p with
    | some (.lst ys) => match blsOf ys with
      | some bs => Q (.bl (f bs)) h
      | none => False
    | _ => False) := rfl
theorem zEGN : gN i d env h QG = QG (env.set i (some d)) h := rfl
theorem zEGNl : gNl ds env h QG = (ds = [] ∧ QG env h) := rfl
theorem zEGCn : gCn g gs (d :: ds) env h QG = g d env h fun e1 h1 => gs ds e1 h1 QG := rfl
theorem zEGT {n : Nat} : gT n gs (.tup ds) env h QG = (ds.length = n ∧ gs ds env h QG) := rfl
theorem zEGSub {wi : WE} : gSub wo wi d env h QG = wo env h (fun o h1 => wi env h1 (fun i h2 => lstQ h2 o fun a xs => ixQ xs.length i fun j => QG env (dup h2 a (.lst (xs.set j d)))) fun _ _ => False) fun _ _ => False := rfl
theorem zEIxQ {n : Nat} {z : Int} {k : Nat → Prop} : ixQ n (.int z) k = (match ixN n z with
    | some j => k j
    | none => False) := rfl
theorem zENewL {ds : List D} : NewL h ds Q = ∀ p, h p = none → Q (.ref p) (dup h p (.lst ds)) := rfl
end
end
section
variable {α : Type} {a b c d : α} {l : List α}
theorem zAt0 : atI (a :: l) 0 = some a := atN (i := 0)
theorem zAt1 : atI (a :: b :: l) 1 = some b := atN (i := 1)
theorem zAt2 : atI (a :: b :: c :: l) 2 = some c := atN (i := 2)
theorem zAt3 : atI (a :: b :: c :: d :: l) 3 = some d := atN (i := 3)
theorem ixN_nat {n i : Nat} (h : i < n) : ixN n (i : Int) = some i := by
  unfold ixN
  have e0 : (0 : Int) ≤ (i : Int) := by omega
  have e1 : (i : Int) < (n : Int) := by omega
  rw [if_pos e0, if_pos e1, Int.toNat_natCast]
theorem zIx0 : ixN (0 + 1) 0 = some 0 := rfl
theorem cut_to {xs : List D} {k : Nat} : cutD xs none (some (k : Int)) = xs.take k := by
  unfold cutD
  rw [HT.sIx_none, HT.sIx_nat]
  simp only [List.drop_zero, Nat.sub_zero]
  rcases Nat.le_total k xs.length with q | q
  · rw [Nat.min_eq_left q]
  · rw [Nat.min_eq_right q, List.take_of_length_le (Nat.le_refl _), List.take_of_length_le q]
theorem cut_fr {xs : List D} {k : Nat} : cutD xs (some (k : Int)) none = xs.drop k := by
  unfold cutD
  rw [HT.sIx_none, HT.sIx_nat]
  rcases Nat.le_total k xs.length with q | q
  · rw [Nat.min_eq_left q]
    exact List.take_of_length_le (by simp)
  · rw [Nat.min_eq_right q, List.drop_eq_nil_of_le (Nat.le_refl _), List.drop_eq_nil_of_le q]
    simp
theorem zL0 : (([] : List α).length ≤ sizeLine) = True := eq_true (by show 0 ≤ 16777216; omega)
theorem zL1 : ([a].length ≤ sizeLine) = True := eq_true (by show 1 ≤ 16777216; omega)
theorem zL2 : ([a, b].length ≤ sizeLine) = True := eq_true (by show 2 ≤ 16777216; omega)
theorem zL3 : ([a, b, c].length ≤ sizeLine) = True := eq_true (by show 3 ≤ 16777216; omega)
theorem zL4 : ([a, b, c, d].length ≤ sizeLine) = True := eq_true (by show 4 ≤ 16777216; omega)
theorem cdiv {i j : Int} (h0 : 0 < j) (h1 : j < 1073741824) : CDiv i j := ⟨h0, h1⟩
theorem cmulR {i j : Int} (h0 : 0 ≤ j) (h1 : j < 1073741824) : CMul i j := .inr (by
  have : (2 : Int) ^ 64 = 18446744073709551616 := by decide
  omega)
theorem cmulL {i j : Int} (h0 : 0 ≤ i) (h1 : i < 1073741824) : CMul i j := .inl (by
  have : (2 : Int) ^ 64 = 18446744073709551616 := by decide
  omega)
theorem small62 {i : Int} (h0 : -1073741824 ≤ i) (h1 : i < 1073741824) : -(2 ^ 62) ≤ i ∧ i < 2 ^ 62 := by
  have : (2 : Int) ^ 62 = 4611686018427387904 := by decide
  omega
end
theorem lc_i {p : Addr} {gd : DH → Prop} {i : Nat} {wt : WT} {we : WE} {env : Ev} {Q : DH → Prop} {xs : List D} (J : Nat → DH → Prop) (hn : ∀ hh, J xs.length hh → Q hh)
    (hs : ∀ (j : Nat) (x : D) (hh : DH) (N : DH → Prop), xs[j]? = some x → J j hh → (∀ h', J (j + 1) h' → N h') →
      wt (env.set i (some x)) hh (fun b h2 => if b = true then we (env.set i (some x)) h2 (fun y h3 => lstQ h3 (.ref p) fun _ acc => acc.length < sizeLine ∧ gd (dup h3 p (.lst (acc ++ [y]))) ∧ N (dup h3 p (.lst (acc ++ [y])))) (fun _ _ => False) else gd h2 ∧ N h2) (fun _ _ => False)) :
    ∀ hh, J 0 hh → lcW p gd i wt we env Q xs hh := by
  have go : ∀ (ys : List D) (j : Nat), ys = xs.drop j → j ≤ xs.length → ∀ h, J j h → lcW p gd i wt we env Q ys h := by
    intro ys
    induction ys with
    | nil =>
      intro j e hj h hJ
      have : xs.length ≤ j := by simpa using e.symm
      have z : j = xs.length := by omega
      subst z
      exact hn h hJ
    | cons y ys ih =>
      intro j e hj h hJ
      have hlt : j < xs.length := by
        rcases Nat.lt_or_ge j xs.length with q | q
        · exact q
        · rw [List.drop_eq_nil_of_le q] at e; cases e
      have e1 := List.drop_eq_getElem_cons hlt
      rw [e1] at e
      obtain ⟨e2, e3⟩ := List.cons.inj e
      have hx : xs[j]? = some y := by rw [List.getElem?_eq_getElem hlt, e2]
      exact hs j y h _ hx hJ fun h2 J2 => ih (j + 1) e3 (by omega) h2 J2
  exact fun h hJ => go xs 0 (by simp) (by omega) h hJ
end DL
namespace DL
open PySem PySem.Spec PyProof.Rows L2
/-! ### x.bit_length() -/
section
variable {X : Cx} {o e : Expr} {wo : WE} {apos pos : Pos}
def wBits (wo : WE) : WE := fun env h Q Qx => wo env h (fun d h1 => match d with
  | .int i => Q (.int (Builtin.Int.intBits i : Nat)) h1
  | _ => False) Qx
theorem de_bits (ho : DE X o wo) (hbase : attributeBase o "bit_length" X.env (eval o X.env) = eval o X.env := by rfl) (hline : (apos.endLine == pos.line) = true := by rfl) : DE X (.Call (.Attribute o "bit_length" apos) [] [] pos) (wBits wo) :=
  ⟨fun W ck => (pe_bits (ho.ok W ck) hbase hline).imp fun σ H Q ⟨env, h, Qn, Qx, rs, rw_, q, kq, kx⟩ =>
    ⟨env, h, _, Qx, rs, rw_, q, fun d h1 v H1 p1 r1 rd q1 => by
      cases d <;> try exact q1.elim
      exact ⟨_, rd.int_inv, kq _ _ _ _ p1 r1 (.int _) q1⟩, kx⟩⟩
end
/-! ### xs += ys -/
theorem _root_.L2.PIp.or {X : Cx} {op : Operator} {r r' : TIp} (h : PIp X op r) (h' : PIp X op r') : PIp X op (fun x y H Q => r x y H Q ∨ r' x y H Q) := by
  intro pins s σ H x y v u Q I rx ry q
  rcases q with q | q
  · exact h pins s σ H x y v u Q I rx ry q
  · exact h' pins s σ H x y v u Q I rx ry q
def ipL : TIp := fun x y H Q => ∃ l b xs zs, x = .ref l ∧ y = .ref b ∧ H l = some (.lst xs) ∧ H b = some (.lst zs) ∧ xs.length + zs.length ≤ sizeLine ∧ Q (.ref l) (upd H l (.lst (xs ++ zs)))
theorem ip_addL {X : Cx} : PIp X .Add ipL := by
  intro pins s σ H x y v u Q I rx ry h
  obtain ⟨l, b, xs, zs, rfl, rfl, hH, hB, hz, q⟩ := h
  cases rx
  cases ry
  obtain ⟨z, its, n, r, hl, e⟩ := I.lstM hH
  obtain ⟨z2, its2, n2, r2, hl2, e2⟩ := I.lstM hB
  have ha : s.TypeIs (.ref l) "list" := ⟨_, e, rfl⟩
  have hb : s.TypeIs (.ref b) "list" := ⟨_, e2, rfl⟩
  have hfill : fillsNumberSlot (.type "list") "add" = pure false :=
    PySem.fillsNumberSlot_seq (id := "list.__add__") (r := none) PySem.F.slot_list_add.lookup (by decide +kernel) (by rw [typeLookup_type, builtinLookup_eq_fast]; kernel_rfl) rfl
  have hfi : fillsInplaceSlot (.type "list") "add" (Operator.Add == .Add) = pure false := by
    unfold fillsInplaceSlot
    show (typeLookup (.type "list") (dunderI "add") >>= fun fi => pure (fi.isSome && !isSeqSlot fi)) = pure false
    rw [PySem.F.slot_list_iadd.lookup]; rfl
  have hsi : seqSlot? (.type "list") (dunderI "add") = pure (some (.builtin "list.__iadd__")) :=
    PySem.seqSlot_of (T := "list") (name := dunderI "add") (id := "list.__iadd__") PySem.F.slot_list_iadd.lookup (by decide +kernel)
  unfold inplaceOp
  refine wpAny_holding ?_
  refine wpAny_bind (wpAny_typeOf ha (wpAny_bind (wpAny_of_eq hfi ?_)))
  show wpAny _ _ (if false = true then _ else _) _ _ s
  rw [if_neg Bool.false_ne_true]
  refine wpAny_bind (wpAny_binaryOp1_none (nm := "add") ha hb hfill ?_)
  refine wpAny_bind (wpAny_of_eq hsi ?_)
  refine wpAny_bind (wpAny_rule ?_)
  refine call_meets F.slot_list_iadd ha F.entry_list_iadd (F.args_list_iadd_2 _ _) (PySem.AutoSeq1.list___iadd___list_list_0 l its.toArray n b its2.toArray n2 ?_ ?_ ?_) ⟨e, e2, ?_⟩
  · rw [List.size_toArray, List.size_toArray, ← hl, ← hl2, notLongL hz, Bool.and_false]; exact Bool.false_ne_true
  · rw [List.size_toArray, ← hl]; omega
  · rw [List.size_toArray, List.size_toArray, ← hl, ← hl2]; omega
  · have I' := I.lset (its' := its ++ its2) (t' := s.toks) (f := fun x => x ++ its2.toArray) hH e (by simp) (r.append r2) (by rw [List.length_append]; exact hz)
    exact ⟨.ref l, _, I', rfl, q⟩
section
variable {X : Cx} {e : Expr} {we : WE} {x : Str} {pos pos' : Pos}
def wAugL (i : Nat) (we : WE) : WS := fun E env h => match env[i]? with
  | some (some (.ref a)) => we env h (fun d h1 => lstQ h1 d fun _ ys => lstQ h1 (.ref a) fun _ xs => xs.length + ys.length ≤ sizeLine ∧ E.nx (env.set i (some (.ref a))) (dup h1 a (.lst (xs ++ ys)))) (fun x h1 => E.rx x env h1)
  | _ => False
theorem ds_addL {i : Nat} (hN : X.N.Nodup) (he : DE X e we) (hi : X.N[i]? = some x := by rfl) (hx : Loc X.env.scope x := by first | exact Or.inl rfl | exact Or.inr rfl) (hf : X.fn x = true ∨ X.env.scope.names.lookup x = some .local := by first | exact .inl rfl | exact .inr rfl) :
    DS X (.AugAssign (.Name x pos') .Add e pos) (wAugL i we) := ⟨fun W ck => (ps_aug hN hi hx (he.ok W ck) ip_addL hf).imp fun D σ H ⟨E, env, h, rs, rw_, q, ks⟩ => by
  unfold wAugL at q
  split at q
  · rename_i a e1
    obtain ⟨v, e2, rv⟩ := rs.get e1
    cases rv
    refine ⟨_, e2, env, h, _, _, rs, rw_, q, fun d h1 v H1 p1 r1 rd q1 => ?_, ks.kx rs⟩
    obtain ⟨b, ys, rfl, eb, q1⟩ := q1.get
    obtain ⟨a', xs, ea', ea, hz, q1⟩ := q1.get
    cases ea'
    cases rd
    obtain ⟨vs, hv, rr⟩ := r1 _ _ ea
    obtain ⟨ws, hw, rr2⟩ := r1 _ _ eb
    have w : Wr (H1 a) := by rw [hv]; exact True.intro
    have pw : Pe H1 (upd H1 a (.lst (vs ++ ws))) := Pe.wr w
    exact ⟨a, b, vs, ws, rfl, rfl, hv, hw, by rw [← rr.length, ← rr2.length]; exact hz, ks.nx _ _ _ _ (p1.trans pw) ((rs.mono (p1.trans pw)).set i (.ref a)) (r1.set w (show RO X.K _ a (.lst (xs ++ ys)) from ⟨_, upd_same, (rr.append rr2).mono pw⟩)) q1⟩
  · exact q.elim⟩
end
/-! ### xs[i] += e, ints in a list -/
section
variable {X : Cx}
theorem get_list : PGet X (fun o i H Q => ∃ p xs k v, o = .ref p ∧ i = .int k ∧ SqL X.K H p xs ∧ atI xs k = some v ∧ Q v H) := by
  intro pins s σ H x y v u Q I rx ry h
  obtain ⟨p, xs, i, z, rfl, rfl, hq, he, q⟩ := h
  cases rx
  obtain ⟨t, rfl⟩ := ry
  obtain ⟨its, r, pl, hz⟩ := I.list hq
  obtain ⟨j, h1, h2, h3, h4, h5⟩ := atI_get he
  obtain ⟨w, ew, rw'⟩ := r.get h2
  have hl := r.length
  have hn := line63
  have fin : EP X pins σ Q w s := ⟨z, H, I, rw', q⟩
  by_cases h0 : 0 ≤ i
  · have hj : i.toNat = j := by
      rw [seqIndex_of h0 h5] at h1
      exact Option.some.inj h1
    exact wpAny_getItem_list pl.isList h0 (by omega) (by rw [hj]; simpa using ew) fin
  · have hj : (i + (its.toArray.size : Int)).toNat = j := by
      rw [seqIndex_neg (by omega) h4] at h1
      rw [List.size_toArray, ← hl]
      exact Option.some.inj h1
    exact wpAny_getItem_list_neg pl.isList (by omega) (by rw [List.size_toArray] <;> omega) (by omega) (by rw [hj]; simpa using ew) fin
variable {o i e : Expr} {wo wi we : WE} {tpos pos : Pos}
def wAugS (f : Int → Int → Int) (wo wi we : WE) : WS := fun E env h => wo env h (fun o h1 => wi env h1 (fun ix h2 => gIx o ix h2 fun z h3 => we env h3 (fun d h4 => match z, d with
  | .int x, .int y => lstQ h4 o fun a xs => ixQ xs.length ix fun j => E.nx env (dup h4 a (.lst (xs.set j (.int (f x y)))))
  | _, _ => False) (fun x h' => E.rx x env h')) (fun x h' => E.rx x env h')) (fun x h' => E.rx x env h')
theorem augS_ok {W : WX} {f : Int → Int → Int} (D : Ends) (σ : L2.St) (H : Hp) (q : tS X.K W (fun E env h => wo env h (fun o h1 => wi env h1 (fun ix h2 => lstQ h2 o fun _ _ => gIx o ix h2 fun z h3 => we env h3 (fun d h4 => match z, d with
  | .int x, .int y => lstQ h4 o fun a xs => ixQ xs.length ix fun j => E.nx env (dup h4 a (.lst (xs.set j (.int (f x y)))))
  | _, _ => False) (fun x h' => E.rx x env h')) (fun x h' => E.rx x env h')) (fun x h' => E.rx x env h')) D σ H) : tAugS (tE X.K W wo) (tE X.K W wi) (tE X.K W we) (fun o i H Q => ∃ p xs k v, o = .ref p ∧ i = .int k ∧ SqL X.K H p xs ∧ atI xs k = some v ∧ Q v H) (ipI f) rSetL D σ H := by
  obtain ⟨E, env, h, rs, rw_, q, ks⟩ := q
  refine ⟨env, h, _, _, rs, rw_, q, fun od h1 ov H1 p1 r1 ro q1 => ⟨env, h1, _, _, rs.mono p1, r1, q1, fun idd h2 iv H2 p2 r2 ri q2 => ?_, (ks.mono p1).kx (rs.mono p1)⟩, ks.kx rs⟩
  obtain ⟨a, xs, rfl, e1, q3⟩ := q2.get
  cases ro
  unfold gIx at q3
  cases idd <;> try exact q3.elim
  rename_i k
  cases ri
  dsimp only at q3
  rw [e1] at q3
  obtain ⟨z, ez, q3⟩ := QAt.get q3
  obtain ⟨vs, hv, rr⟩ := r2 _ _ e1
  obtain ⟨zv, ezv, rz⟩ := rr.at ez
  have p12 := p1.trans p2
  refine ⟨a, vs, k, zv, rfl, rfl, SqL.of hv, ezv, env, h2, _, _, rs.mono p12, r2, q3, fun d h4 v H4 p4 r4 rd q4 => ?_, (ks.mono p12).kx (rs.mono p12)⟩
  cases z <;> try exact q4.elim
  cases d <;> try exact q4.elim
  rename_i x y
  cases rd
  have ezz := (rz.mono p4).int_inv
  subst ezz
  obtain ⟨a', ys, ea, e5, q5⟩ := q4.get
  cases ea
  obtain ⟨z2, j, ej, hj, q5⟩ := q5.get
  cases ej
  obtain ⟨ws, hw, rr2⟩ := r4 _ _ e5
  have w : Wr (H4 a) := by rw [hw]; exact True.intro
  have pw : Pe H4 (upd H4 a (.lst (ws.set j (.int (f x y))))) := Pe.wr w
  have p := (p12.trans p4).trans pw
  exact ⟨x, y, rfl, rfl, a, ws, k, j, rfl, rfl, hw, by rw [← rr2.length]; exact hj, ks.nx env _ _ _ p (rs.mono p) (r4.set w (show RO X.K _ a (.lst (ys.set j (.int (f x y)))) from ⟨_, upd_same, (rr2.set (.int _) j).mono pw⟩)) q5⟩
def wAugX (f : Int → Int → Int) (wo wi we : WE) : WS := fun E env h => wo env h (fun o h1 => wi env h1 (fun ix h2 => lstQ h2 o fun _ _ => gIx o ix h2 fun z h3 => we env h3 (fun d h4 => match z, d with
  | .int x, .int y => lstQ h4 o fun a xs => ixQ xs.length ix fun j => E.nx env (dup h4 a (.lst (xs.set j (.int (f x y)))))
  | _, _ => False) (fun x h' => E.rx x env h')) (fun x h' => E.rx x env h')) (fun x h' => E.rx x env h')
theorem ds_augAdd (ho : DE X o wo) (hi : DE X i wi) (he : DE X e we)
    (ha : ∀ ov iv new, augStore i ov iv new = (do holding [new, ov, iv] (setItem ov iv new); release [new, ov, iv] []; pure .next) := by intros; rfl) : DS X (.AugAssign (.Subscript o i tpos) .Add e pos) (wAugX (fun a b => a + b) wo wi we) :=
  ⟨fun W ck => (ps_augS (ho.ok W ck) (hi.ok W ck) get_list (he.ok W ck) ip_add set_list ha).imp augS_ok⟩
theorem ds_augSub (ho : DE X o wo) (hi : DE X i wi) (he : DE X e we)
    (ha : ∀ ov iv new, augStore i ov iv new = (do holding [new, ov, iv] (setItem ov iv new); release [new, ov, iv] []; pure .next) := by intros; rfl) : DS X (.AugAssign (.Subscript o i tpos) .Sub e pos) (wAugX (fun a b => a - b) wo wi we) :=
  ⟨fun W ck => (ps_augS (ho.ok W ck) (hi.ok W ck) get_list (he.ok W ck) ip_sub set_list ha).imp augS_ok⟩
end
/-! ### enumerate(xs), a list -/
def enumD : Nat → List D → List D
  | _, [] => []
  | n, x :: xs => .tup [.int (n : Nat), x] :: enumD (n + 1) xs
theorem enumD_len : ∀ (n : Nat) (xs : List D), (enumD n xs).length = xs.length
  | _, [] => rfl
  | n, x :: xs => by rw [enumD, List.length_cons, List.length_cons, enumD_len]
theorem enumD_get : ∀ {n i : Nat} {xs : List D} {y : D}, (enumD n xs)[i]? = some y → ∃ x, xs[i]? = some x ∧ y = .tup [.int ((n + i : Nat) : Int), x]
  | _, _, [], _, e => by simp [enumD] at e
  | n, 0, x :: xs, y, e => by
    simp [enumD] at e; subst e; exact ⟨x, rfl, rfl⟩
  | n, i + 1, x :: xs, y, e => by
    obtain ⟨x', h1, h2⟩ := enumD_get (n := n + 1) (i := i) (xs := xs) (y := y) (by simpa [enumD] using e)
    exact ⟨x', by simpa using h1, by rw [h2, show n + 1 + i = n + (i + 1) by omega]⟩
section
variable {X : Cx} {e : Expr} {we : WE} {p pos tpos : Pos} {elts : List Expr} {kk : Nat} {ws : WA}
def wEnum (ws : WA) : WI := fun env h Q Qx => ws env h (fun ds h1 => One (fun d => srcQ h1 d fun s => (∀ xs, d ≠ .tup xs) ∧ Q ⟨enumD 0 s.xs, s.gd⟩ h1) ds) Qx
theorem it_enum {K : PySem.W.Frag} {H1 : Hp} {a : Addr} {xs : List D} {gd : DH → Prop} (at_ : ∀ H h, Pe H1 H → RW K h H → gd h → ∃ vs, SqL K H a vs ∧ RDs K H xs vs) : ItOk K H1 ⟨enumD 0 xs, gd⟩ (Ite K a) := fun i H h p rw_ g => by
  obtain ⟨vs, s, r⟩ := at_ H h p rw_ g
  refine ⟨fun x hx => ?_, fun hl => ⟨vs, s, by rw [← r.length]; simpa [enumD_len] using hl⟩⟩
  obtain ⟨y, hy, rfl⟩ := enumD_get hx
  obtain ⟨v, hv, rd⟩ := r.get hy
  refine ⟨⟨vs, v, s, hv⟩, fun v' H' z => ?_⟩
  obtain ⟨T, x, rfl, hT, rfl, z⟩ := z
  have z2 := z vs s
  rw [hv] at z2
  cases z2
  refine ⟨Pe.new hT, rw_.beside hT, .tup upd_same ?_⟩
  rw [Nat.zero_add]
  exact .cons (.int _) (.cons (rd.mono (Pe.new hT)) .nil)
theorem di_enum (hg : Gl X "enumerate") (hm : X.mg "enumerate" = none) (ha : DA X [e] ws) (hs : starEach [e] X.env = [(false, eval e X.env)] := by rfl) : DI X (.Tuple elts kk tpos) (.Call (.Name "enumerate" p) [e] [] pos) (wEnum ws) :=
  ⟨fun W ck => (pi_enum hg hm (ha.ok W ck) hs).imp fun σ H R ⟨env, h, Qn, Qx, rs, rw_, q, kr, kx⟩ =>
    ⟨env, h, _, Qx, rs, rw_, q, fun ds h1 vs H1 p1 r1 rds q1 => by
      obtain ⟨d, v, rfl, rfl, rd, q1⟩ := one_inv rds q1
      cases d with
      | tup xs => exact absurd rfl (q1.1 xs)
      | sl xs =>
        obtain ⟨a, vs, rfl, t, r⟩ := rd.sl_inv
        exact ⟨a, vs, rfl, t.seq, kr _ h1 _ H1 p1 r1 (it_enum fun H h p rw_ _ => ⟨vs, (p.stL t).seq, r.mono p⟩) q1.2⟩
      | ref a =>
        have ev : v = .ref a := rd.ref_inv
        subst ev
        unfold srcQ at q1
        dsimp only at q1
        split at q1
        · rename_i xs e1
          obtain ⟨vs, hv, r⟩ := r1 _ _ e1
          exact ⟨a, vs, rfl, SqL.of hv, kr _ h1 _ H1 p1 r1 (it_enum fun H h p rw_ g => by
            obtain ⟨vs', hv', r'⟩ := rw_ _ _ g
            exact ⟨vs', SqL.of hv', r'⟩) q1.2⟩
        · exact q1.elim
      | _ => exact q1.elim, kx⟩⟩
end
/-! ### a list times an int -/
def gTimesL : G2 := fun x y h Q => match x, y with
  | .ref a, .int k => match h a with
    | some (.lst xs) => (-(2 ^ 63) ≤ k ∧ k < 2 ^ 63 ∧ xs.length * k.toNat ≤ sizeLine) ∧ NewL h (List.replicate k.toNat xs).flatten Q
    | _ => False
  | _, _ => False
theorem o_timesL {X : Cx} : Op2 X (binaryOp .Mult) gTimesL := by
  refine ⟨_, op_rep, ?_⟩
  intro x y h Qn H vx vy Q rx ry rw_ q kq
  unfold gTimesL at q
  split at q
  · split at q
    · rename_i a k _ xs e
      cases rx; cases ry
      obtain ⟨vs, hv, r⟩ := rw_ _ _ e
      exact ⟨a, k, vs, rfl, rfl, hv, q.1.1, q.1.2.1, by rw [← r.length]; exact q.1.2.2, fun p hp => newL_ok (.refl H) rw_ (r.rep _) q.2 kq hp⟩
    · exact q.elim
  · exact q.elim
/-! ### readings -/
section
variable {env : Ev} {h : DH} {Q : QD} {Qx : QX} {i : Nat} {a : Option D} {d : D} {E : En} {we wo wi : WE} {ws : WA}
theorem zEBits : wBits wo env h Q Qx = wo env h (fun d h1 => match d with
  | .int i => Q (.int (Builtin.Int.intBits i : Nat)) h1
  | _ => False) Qx := rfl
theorem zEAugL : wAugL i we E env h = wVar i env h (fun d _ => match d with
  | .ref a => we env h (fun d h1 => lstQ h1 d fun _ ys => lstQ h1 (.ref a) fun _ xs => xs.length + ys.length ≤ sizeLine ∧ E.nx (env.set i (some (.ref a))) (dup h1 a (.lst (xs ++ ys)))) (fun x h1 => E.rx x env h1)
  | _ => False) (fun _ _ => False) := by
  unfold wAugL wVar
  cases env[i]? with
  | none => rfl
  | some o =>
    cases o with
    | none => rfl
    | some d => cases d <;> rfl
theorem zEAugX {f : Int → Int → Int} : wAugX f wo wi we E env h = wo env h (fun o h1 => wi env h1 (fun ix h2 => lstQ h2 o fun _ _ => gIx o ix h2 fun z h3 => we env h3 (fun d h4 => match z, d with
  | .int x, .int y => lstQ h4 o fun a xs => ixQ xs.length ix fun j => E.nx env (dup h4 a (.lst (xs.set j (.int (f x y)))))
  | _, _ => False) (fun x h' => E.rx x env h')) (fun x h' => E.rx x env h')) (fun x h' => E.rx x env h') := rfl
theorem zEEnum {QI : Src → DH → Prop} : wEnum ws env h QI Qx = ws env h (fun ds h1 => One (fun d => srcQ h1 d fun s => (∀ xs, d ≠ .tup xs) ∧ QI ⟨enumD 0 s.xs, s.gd⟩ h1) ds) Qx := rfl
theorem zGTimesL {p : Addr} {k : Int} : gTimesL (.ref p) (.int k) h Q = (match h p with
    | some (.lst xs) => (-(2 ^ 63) ≤ k ∧ k < 2 ^ 63 ∧ xs.length * k.toNat ≤ sizeLine) ∧ NewL h (List.replicate k.toNat xs).flatten Q
    | _ => False) := rfl
end
end DL
namespace DL
open PySem PySem.Spec PyProof.Rows L2
/-! ### walking by itself -/
/-- N goes on with s -/
structure Cont (N : Ev → DH → Prop) (s : WS) (E : En) : Prop where
  go : ∀ e h, s E e h → N e h
theorem seq_c {s1 s2 : WS} {E : En} {env : Ev} {h : DH} (H : ∀ N : Ev → DH → Prop, Cont N s2 E → s1 ⟨N, E.rt, E.bk, E.ct, E.rx⟩ env h) : wSeq s1 s2 E env h := H _ ⟨fun _ _ q => q⟩
theorem cont_go {N : Ev → DH → Prop} {s : WS} {E : En} {env : Ev} {h : DH} (c : Cont N s E) (q : s E env h) : N env h := c.go _ _ q
/-- how a def ends -/
structure Ends (E : En) (Q : QD) (Qx : QX) : Prop where
  rt : ∀ d h' h2, Sub h2 h' → Q d h2 → E.rt d h'
  rx : ∀ x e h' h2, Sub h2 h' → Qx x h2 → E.rx x e h'
  nx : ∀ e h' h2, Sub h2 h' → Q .non h2 → E.nx e h'
theorem def_c {np nn : Nat} {w : WS} {ds : List D} {h : DH} {Q : QD} {Qx : QX} (hl : ds.length = np) (H : ∀ E : En, Ends E Q Qx → w E (ds.map some ++ List.replicate (nn - np) none) h) : wDef np nn w ds h Q Qx := def_i hl fun E a b c => H E ⟨a, b, c⟩
theorem rt_go {E : En} {Q : QD} {Qx : QX} {d : D} {h : DH} (c : Ends E Q Qx) (q : Q d h) : E.rt d h := c.rt _ _ _ (.refl _) q
theorem rt_sub {E : En} {Q : QD} {Qx : QX} {d : D} {h h' : DH} (c : Ends E Q Qx) (s : Sub h h') (q : Q d h) : E.rt d h' := c.rt _ _ _ s q
theorem rx_sub {E : En} {Q : QD} {Qx : QX} {x : XC} {e : Ev} {h h' : DH} (c : Ends E Q Qx) (s : Sub h h') (q : Qx x h) : E.rx x e h' := c.rx _ _ _ _ s q
theorem rx_go {E : En} {Q : QD} {Qx : QX} {x : XC} {e : Ev} {h : DH} (c : Ends E Q Qx) (q : Qx x h) : E.rx x e h := c.rx _ _ _ _ (.refl _) q
theorem nx_go {E : En} {Q : QD} {Qx : QX} {e : Ev} {h : DH} (c : Ends E Q Qx) (q : Q .non h) : E.nx e h := c.nx _ _ _ (.refl _) q
section
variable {h : DH} {Q : QD} {p : Addr} {xs ys : List D}
theorem gIx_i {i : Int} (e : h p = some (.lst xs)) (q : QAt h Q (atI xs i)) : gIx (.ref p) (.int i) h Q := by rw [zGIx_r, e]; exact q
theorem qat_i {o : Option D} {d : D} (e : o = some d) (q : Q d h) : QAt h Q o := by rw [e]; exact q
theorem ixQ_i {n j : Nat} {z : Int} {k : Nat → Prop} (e : ixN n z = some j) (q : k j) : ixQ n (.int z) k := by rw [zEIxQ, e]; exact q
theorem gSl_i {lo hi : Option Int} (e : h p = some (.lst xs)) (q : NewL h (cutD xs lo hi) Q) : gSl (.ref p) lo hi h Q := by rw [zGSl_r, e]; exact q
theorem gSl_s {lo hi : Option Int} (q : NewL h (cutD xs lo hi) Q) : gSl (.sl xs) lo hi h Q := q
theorem srcQ_s {k : Src → Prop} (q : k ⟨xs, fun _ => True⟩) : srcQ h (.sl xs) k := q
theorem gRev_i (e : h p = some (.lst xs)) (q : NewL h xs.reverse Q) : gRev (.ref p) h Q := by rw [zGRev_r, e]; exact q
theorem lenQ_i {k : Nat → Prop} (e : h p = some (.lst xs)) (q : k xs.length) : LenQ h (.ref p) k := by rw [zLenQ_r, zItems_r, e]; exact q
theorem itQ_i {k : List D → Prop} (e : h p = some (.lst xs)) (q : k xs) : ItQ h (.ref p) k := by rw [zItQ_i, zItems_r, e]; exact q
theorem itQ_t {k : List D → Prop} (q : k xs) : ItQ h (.tup xs) k := q
theorem itQ_s {k : List D → Prop} (q : k xs) : ItQ h (.sl xs) k := q
theorem lstQ_i {k : Addr → List D → Prop} (e : h p = some (.lst xs)) (q : k p xs) : lstQ h (.ref p) k := by rw [zLstQ_r, e]; exact q
theorem srcQ_i {k : Src → Prop} (e : h p = some (.lst xs)) (q : k ⟨xs, fun h' => h' p = some (.lst xs)⟩) : srcQ h (.ref p) k := by rw [zSrcQ_r, e]; exact q
theorem fldQ_i {m : Str} {k : D → Prop} {C : Addr} {fs : List (Str × D)} {d : D} (e : h p = some (.ins C fs)) (l : fs.lookup m = some d) (q : k d) : fldQ h (.ref p) m k := by rw [zFldQ_r, e]; dsimp only; rw [l]; exact q
theorem fld_i {m : Str} {k : D → Prop} {Cs : List Addr} {C : Addr} {fs : List (Str × D)} {d : D} (e : h p = some (.ins C fs)) (hC : C ∈ Cs) (l : fs.lookup m = some d) (q : k d) : fldQ h (.ref p) m k ∧ ∀ a C fs, D.ref p = .ref a → h a = some (.ins C fs) → C ∈ Cs :=
  ⟨fldQ_i e l q, fun a C' fs' e1 e2 => by cases e1; rw [e] at e2; cases e2; exact hC⟩
theorem insQ_i {C : Addr} {m : Str} {fs : List (Str × D)} (e : h p = some (.ins C fs)) (l : fs.lookup m = none) : insQ h (.ref p) C m := ⟨p, fs, rfl, e, l⟩
theorem tyQ_i {k : String → Prop} (e : h p = some (.lst xs)) (q : k "list") : TyQ h (.ref p) k := by rw [zTyQ_r, e]; exact q
theorem gTimesL_i {k : Int} (e : h p = some (.lst xs)) (c : -(2 ^ 63) ≤ k ∧ k < 2 ^ 63 ∧ xs.length * k.toNat ≤ sizeLine) (q : NewL h (List.replicate k.toNat xs).flatten Q) : gTimesL (.ref p) (.int k) h Q := by rw [zGTimesL, e]; exact ⟨c, q⟩
theorem gAddL_i {p2 : Addr} (e : h p = some (.lst xs)) (e2 : h p2 = some (.lst ys)) (c : xs.length + ys.length ≤ sizeLine) (q : NewL h (xs ++ ys) Q) : gAdd (.ref p) (.ref p2) h Q := by
  show (match h p, h p2 with
    | some (.lst xs), some (.lst ys) => xs.length + ys.length ≤ sizeLine ∧ NewL h (xs ++ ys) Q
    | _, _ => False)
  rw [e, e2]; exact ⟨c, q⟩
theorem fldS_i {Cs : List Addr} {C : Addr} {fs : List (Str × D)} {m : Str} {d : D} {N : DH → Prop} (e : h p = some (.ins C fs)) (hC : C ∈ Cs) (l : fs.length < 1000) (q : N (dup h p (.ins C (putD m d fs)))) :
    ∃ a C fs, D.ref p = .ref a ∧ h a = some (.ins C fs) ∧ C ∈ Cs ∧ fs.length < 1000 ∧ N (dup h a (.ins C (putD m d fs))) := ⟨p, C, fs, rfl, e, hC, l, q⟩
theorem truL {QT : Bool → DH → Prop} (e : h p = some (.lst xs)) (q : QT (!xs.isEmpty) h) : Tru (.ref p) h QT := by
  unfold Tru; simp only [e]; exact q
theorem allL_i {f : List Bool → Bool} {bs : List Bool} (e : h p = some (.lst (bs.map D.bl))) (q : Q (.bl (f bs)) h) : gAllL f [.ref p] h Q := by
  rw [zEAllL, e]; dsimp only; rw [blsOf_map]; exact q
end
theorem cpow_s {i j : Int} (h0 : 0 ≤ j) (h1 : j ≤ 1000000) (h2 : -1000000 < i) (h3 : i < 1000000) : CPow i j := ⟨h0, h1, by
  have : (2 : Nat) ^ 64 = 18446744073709551616 := by decide
  omega⟩
theorem catch_i {C : Addr} {A B : Prop} (q : A) : ∃ b, ((XC.own C).cls, b) ∈ [(C, true)] ∧ if b = true then A else B := ⟨true, List.mem_singleton_self _, by rw [if_pos rfl]; exact q⟩
theorem catch_a {C : Addr} {F : Addr → Prop} (q : ∀ a, F a) : ∀ a : Addr, XC.own C = .own C ∧ F a := fun a => ⟨rfl, q a⟩
/-! ### equal data -/
section
variable {h : DH} {Q : QD}
/-- two values that Python compares as data -/
theorem gEq_i {neg b : Bool} {x y : D} {d e : PyData} (e1 : py h x = some d) (e2 : py h y = some e) (s1 : SeqAt.shaped d = true) (s2 : SeqAt.shaped e = true) (eb : PyData.eqv d e = b) (q : Q (.bl (if neg = true then !b else b)) h) : gEq neg x y h Q := by
  unfold gEq; rw [e1, e2]; subst eb; exact ⟨s1, s2, q⟩
end
end DL
namespace DL
open PySem PySem.Spec PyProof.Rows L2
/-! ### plain data: None, ints, texts, tuples of them, at most n deep -/
def plN : Nat → D → Bool
  | _, .non => true
  | _, .int _ => true
  | _, .str s => PyData.strOk s
  | n + 1, .tup xs => xs.all (plN n)
  | _, _ => false
def pdN : Nat → D → PyData
  | _, .int i => .int i
  | _, .str s => .str s
  | n + 1, .tup xs => .tuple (xs.map (pdN n))
  | _, _ => .none
theorem pyDs_pl {f : Addr → Option PyData} {n : Nat} (ih : ∀ d, plN n d = true → pyD f d = some (pdN n d)) : ∀ xs : List D, xs.all (plN n) = true → pyDs f xs = some (xs.map (pdN n))
  | [], _ => by simp [pyDs]
  | x :: xs, h => by
    rw [List.all_cons, Bool.and_eq_true] at h
    rw [pyDs, ih x h.1, pyDs_pl ih xs h.2]; rfl
theorem pyD_pl {f : Addr → Option PyData} : ∀ (n : Nat) (d : D), plN n d = true → pyD f d = some (pdN n d)
  | 0, d, h => by cases d <;> first | (simp [plN] at h; done) | simp [pyD, pdN]
  | n + 1, d, h => by
    cases d with
    | tup xs =>
      have hx : xs.all (plN n) = true := by simpa [plN] using h
      rw [pyD, pyDs_pl (pyD_pl n) xs hx]; rfl
    | _ => first | (simp [plN] at h; done) | simp [pyD, pdN]
theorem canLayAll_pl {n : Nat} (ih : ∀ d, plN n d = true → PyData.canLay0 (pdN n d) = true) : ∀ xs : List D, xs.all (plN n) = true → PyData.canLayAll0 (xs.map (pdN n)) = true
  | [], _ => rfl
  | x :: xs, h => by
    rw [List.all_cons, Bool.and_eq_true] at h
    rw [List.map_cons, PyData.canLayAll0, ih x h.1, canLayAll_pl ih xs h.2]; rfl
theorem canLay_pl : ∀ (n : Nat) (d : D), plN n d = true → PyData.canLay0 (pdN n d) = true
  | 0, d, h => by cases d <;> first | rfl | exact h
  | n + 1, d, h => by
    cases d with
    | tup xs => exact canLayAll_pl (canLay_pl n) xs (by simpa [plN] using h)
    | _ => first | rfl | exact h
theorem depthAll_pl {n : Nat} (ih : ∀ d, PyData.depth (pdN n d) ≤ n) : ∀ xs : List D, PyData.depthAll (xs.map (pdN n)) ≤ n
  | [] => Nat.zero_le _
  | x :: xs => by
    rw [List.map_cons, PyData.depthAll]
    have := ih x
    have := depthAll_pl ih xs
    omega
theorem depth_pl : ∀ (n : Nat) (d : D), PyData.depth (pdN n d) ≤ n
  | 0, d => by cases d <;> exact Nat.zero_le _
  | n + 1, d => by
    cases d with
    | tup xs =>
      have := depthAll_pl (depth_pl n) xs
      show PyData.depthAll _ + 1 ≤ n + 1
      omega
    | _ => exact Nat.zero_le _
theorem shaped_pl {n : Nat} (hn : n ≤ 20) (d : D) (h : plN n d = true) : SeqAt.shaped (pdN n d) = true := by
  unfold SeqAt.shaped
  rw [canLay_pl n d h, Bool.true_and]
  have := depth_pl n d
  exact decide_eq_true (by omega)
theorem shaped_pls {n : Nat} (hn : n ≤ 20) (xs : List D) (h : xs.all (plN n) = true) : SeqAt.shaped (.list (xs.map (pdN n))) = true := by
  unfold SeqAt.shaped
  rw [show PyData.canLay0 (.list (xs.map (pdN n))) = PyData.canLayAll0 (xs.map (pdN n)) from rfl, canLayAll_pl (canLay_pl n) xs h, Bool.true_and]
  have := depthAll_pl (depth_pl n) xs
  exact decide_eq_true (by show PyData.depthAll _ + 1 ≤ 64; omega)
theorem eqvAll_pl {n : Nat} (ih : ∀ x y, plN n x = true → plN n y = true → (PyData.eqv (pdN n x) (pdN n y) = true ↔ x = y)) :
    ∀ xs ys : List D, xs.all (plN n) = true → ys.all (plN n) = true → (PyData.eqvAll (xs.map (pdN n)) (ys.map (pdN n)) = true ↔ xs = ys)
  | [], [], _, _ => by simp [PyData.eqvAll]
  | [], _ :: _, _, _ => by simp [PyData.eqvAll]
  | _ :: _, [], _, _ => by simp [PyData.eqvAll]
  | x :: xs, y :: ys, hx, hy => by
    rw [List.all_cons, Bool.and_eq_true] at hx hy
    rw [List.map_cons, List.map_cons, PyData.eqvAll, Bool.and_eq_true, ih x y hx.1 hy.1, eqvAll_pl ih xs ys hx.2 hy.2, List.cons.injEq]
theorem eqv_pl : ∀ (n : Nat) (x y : D), plN n x = true → plN n y = true → (PyData.eqv (pdN n x) (pdN n y) = true ↔ x = y)
  | 0, x, y, hx, hy => by
    cases x <;> first
      | (simp [plN] at hx; done)
      | (cases y <;> first
        | (simp [plN] at hy; done)
        | simp [pdN, PyData.eqv])
  | n + 1, x, y, hx, hy => by
    cases x with
    | tup xs =>
      cases y with
      | tup ys =>
        have h1 : xs.all (plN n) = true := by simpa [plN] using hx
        have h2 : ys.all (plN n) = true := by simpa [plN] using hy
        rw [pdN, pdN, PyData.eqv, eqvAll_pl (eqv_pl n) xs ys h1 h2, D.tup.injEq]
      | _ => first | (simp [plN] at hy; done) | simp [pdN, PyData.eqv]
    | _ => first
      | (simp [plN] at hx; done)
      | (cases y <;> first
        | (simp [plN] at hy; done)
        | simp [pdN, PyData.eqv])
theorem pl_ints {n : Nat} (l : List Int) : (l.map D.int).all (plN n) = true := by
  rw [List.all_map, List.all_eq_true]; intro x _; show plN n (.int x) = true; cases n <;> rfl
theorem plT {n : Nat} {xs : List D} (h : xs.all (plN n) = true) : plN (n + 1) (.tup xs) = true := by simpa [plN] using h
theorem plI {n : Nat} {i : Int} : plN n (.int i) = true := by cases n <;> rfl
theorem plNon {n : Nat} : plN n .non = true := by cases n <;> rfl
theorem plS {n : Nat} {s : Str} (h : PyData.strOk s = true) : plN n (.str s) = true := by cases n <;> exact h
section
variable {h : DH} {Q : QD} {neg : Bool}
theorem geq_yes {n : Nat} {x y : D} (hn : n ≤ 20) (hx : plN n x = true) (e : x = y) (q : Q (.bl (!neg)) h) : gEq neg x y h Q := by
  subst e
  refine gEq_i (b := true) (pyD_pl n x hx) (pyD_pl n x hx) (shaped_pl hn x hx) (shaped_pl hn x hx) ((eqv_pl n x x hx hx).mpr rfl) ?_
  cases neg <;> exact q
theorem geq_no {n : Nat} {x y : D} (hn : n ≤ 20) (hx : plN n x = true) (hy : plN n y = true) (e : x ≠ y) (q : Q (.bl neg) h) : gEq neg x y h Q := by
  refine gEq_i (b := false) (pyD_pl n x hx) (pyD_pl n y hy) (shaped_pl hn x hx) (shaped_pl hn y hy) ?_ ?_
  · rw [Bool.eq_false_iff]; exact fun z => e ((eqv_pl n x y hx hy).mp z)
  · cases neg <;> exact q
theorem py_ls {n : Nat} {a : Addr} {xs : List D} (e : h a = some (.lst xs)) (hx : xs.all (plN n) = true) : py h (.ref a) = some (.list (xs.map (pdN n))) := by
  show pyR 3 h a = _
  rw [pyR, e]
  show (pyDs (pyR 2 h) xs).map PyData.list = _
  rw [pyDs_pl (pyD_pl n) xs hx]; rfl
theorem geqL_yes {n : Nat} {a b : Addr} {xs ys : List D} (hn : n ≤ 20) (ea : h a = some (.lst xs)) (eb : h b = some (.lst ys)) (hx : xs.all (plN n) = true) (e : xs = ys) (q : Q (.bl (!neg)) h) : gEq neg (.ref a) (.ref b) h Q := by
  subst e
  refine gEq_i (b := true) (py_ls ea hx) (py_ls eb hx) (shaped_pls hn xs hx) (shaped_pls hn xs hx) ?_ ?_
  · show PyData.eqvAll _ _ = true
    exact (eqvAll_pl (eqv_pl n) xs xs hx hx).mpr rfl
  · cases neg <;> exact q
theorem geqL_no {n : Nat} {a b : Addr} {xs ys : List D} (hn : n ≤ 20) (ea : h a = some (.lst xs)) (eb : h b = some (.lst ys)) (hx : xs.all (plN n) = true) (hy : ys.all (plN n) = true) (e : xs ≠ ys) (q : Q (.bl neg) h) : gEq neg (.ref a) (.ref b) h Q := by
  refine gEq_i (b := false) (py_ls ea hx) (py_ls eb hy) (shaped_pls hn xs hx) (shaped_pls hn ys hy) ?_ ?_
  · rw [Bool.eq_false_iff]
    show ¬ (PyData.eqvAll _ _ = true)
    exact fun z => e ((eqvAll_pl (eqv_pl n) xs ys hx hy).mp z)
  · cases neg <;> exact q
end
section
variable {h : DH} {Q : QD} {neg : Bool} {a b : Str}
theorem gEqS_t (ha : PyData.strOk a = true) (q : Q (.bl (if neg = true then false else true)) h) : gEq neg (.str a) (.str a) h Q :=
  geq_yes (n := 0) (by decide) (plS ha) rfl (by cases neg <;> exact q)
theorem gEqS_f (ha : PyData.strOk a = true) (hb : PyData.strOk b = true) (e : decide (a = b) = false) (q : Q (.bl (if neg = true then true else false)) h) : gEq neg (.str a) (.str b) h Q :=
  geq_no (n := 0) (by decide) (plS ha) (plS hb) (fun z => by injection z with z; exact of_decide_eq_false e z) (by cases neg <;> exact q)
end
end DL
namespace DL
open PySem PySem.Spec PyProof.Rows L2
/-! ### an int in a tuple or list of ints -/
def gInI (neg : Bool) : G2 := fun x y h Q => match x, items h y with
  | .int i, some ys => match intsOf ys with
    | some ns => Q (.bl (if neg = true then !ns.any (fun z => decide (z = i)) else ns.any fun z => decide (z = i))) h
    | none => False
  | _, _ => False
theorem flat_ints (ns : List Int) : (ns.map V.int).all flatV = true := by
  rw [List.all_map, List.all_eq_true]; intro _ _; rfl
theorem inV_ints (i : Int) : ∀ ns : List Int, inV (.int i) (ns.map V.int) = ns.any fun z => decide (z = i)
  | [] => rfl
  | n :: ns => by
    have ih := inV_ints i ns
    unfold inV at ih ⊢
    rw [List.map_cons, List.any_cons, List.any_cons, ih]
    congr 1
theorem simInI {K : PySem.W.Frag} {neg : Bool} : Sim2 K (gInI neg) (rIn K neg) := by
  intro x y h Qn H vx vy Q rx ry rw_ q kq
  unfold gInI at q
  split at q
  · rename_i i ys e
    split at q
    · rename_i ns e2
      obtain ⟨a, vs, rfl, s, r⟩ := items_ok ry rw_ e
      have e3 := intsOf_eq e2
      subst e3
      have e4 := r.ints_inv
      subst e4
      cases rx
      refine ⟨a, _, rfl, s, rfl, flat_ints ns, ?_⟩
      rw [inV_ints]
      exact kq.here rw_ (.bl _) q
    · exact q.elim
  · exact q.elim
theorem o_inI {X : Cx} : Op2 X (compareOp .In) (gInI false) := ⟨_, op_in_seq, simInI⟩
theorem o_notinI {X : Cx} : Op2 X (compareOp .NotIn) (gInI true) := ⟨_, op_notIn_seq, simInI⟩
theorem gInI_t {neg : Bool} {i : Int} {ns : List Int} {h : DH} {Q : QD} (q : Q (.bl (if neg = true then !ns.any (fun z => decide (z = i)) else ns.any fun z => decide (z = i))) h) : gInI neg (.int i) (.tup (ns.map D.int)) h Q := by
  unfold gInI
  dsimp only [items]
  rw [intsOf_map]; exact q
theorem gInI2 {neg : Bool} {i a b : Int} {h : DH} {Q : QD} (q : Q (.bl (if neg = true then !(decide (a = i) || decide (b = i)) else (decide (a = i) || decide (b = i)))) h) : gInI neg (.int i) (.tup [.int a, .int b]) h Q := by
  refine gInI_t (ns := [a, b]) ?_
  simp only [List.any_cons, List.any_nil, Bool.or_false]
  exact q
end DL
namespace DL
open PySem PySem.Spec PyProof.Rows L2
/-! ### heaps by name: what is made stays told -/
theorem newL_go {h : DH} {L : List D} {Q : QD} (k : ∀ p h', h p = none → Sub h h' → h' p = some (.lst L) → Q (.ref p) h') : NewL h L Q := fun p f => k p _ f (Sub.new f) dup_same
theorem sub_at {h h' : DH} {a : Addr} {o : DO} (s : Sub h h') (e : h a = some o) : h' a = some o := s _ _ e
theorem sub_dup0 {h hh : DH} {p : Addr} {o : DO} (s : Sub h hh) (f : h p = none) : Sub h (dup hh p o) := fun a u e => by
  rw [dup_ne (ne_fresh e f)]; exact s a u e
/-- C(ds) -/
def Make (C : Addr) (wf : WF) (ds : List D) (h : DH) (Q : QD) (Qx : QX) : Prop := ∀ p, h p = none → wf (.ref p :: ds) (dup h p (.ins C [])) (fun v h2 => v = .non ∧ Q (.ref p) h2) Qx
theorem zEMake2 {C : Addr} {wf : WF} {ws : WA} {env : Ev} {h : DH} {Q : QD} {Qx : QX} : wMake C wf ws env h Q Qx = ws env h (fun ds h1 => Make C wf ds h1 Q Qx) Qx := rfl
/-- a comprehension over s -/
def LcG (i : Nat) (wt : WT) (we : WE) (env : Ev) (Q : QD) (s : Src) (h1 : DH) : Prop := ∀ p, h1 p = none → s.gd (dup h1 p (.lst [])) ∧ lcW p s.gd i wt we env (fun h2 => Q (.ref p) h2) s.xs (dup h1 p (.lst []))
theorem zELc2 {wi : WI} {i : Nat} {wt : WT} {we : WE} {env : Ev} {h : DH} {Q : QD} {Qx : QX} : wLc wi i wt we env h Q Qx = wi env h (fun s h1 => LcG i wt we env Q s h1) Qx := rfl
/-- with a condition b -/
theorem lc_if {i : Nat} {wt : WT} {we : WE} {env : Ev} {Q : QD} {s : Src} {h1 : DH} (b : Nat → Bool) (f : Nat → D) (hgd : ∀ h', Sub h1 h' → s.gd h') (hl : s.xs.length < sizeLine)
    (ht : ∀ (j : Nat) (x : D) (h' : DH) (R : Bool → DH → Prop), s.xs[j]? = some x → Sub h1 h' → (∀ h'', Sub h' h'' → R (b j) h'') → wt (env.set i (some x)) h' R (fun _ _ => False))
    (hs : ∀ (j : Nat) (x : D) (h' : DH) (R : QD), s.xs[j]? = some x → b j = true → Sub h1 h' → (∀ h'', Sub h' h'' → R (f j) h'') → we (env.set i (some x)) h' R (fun _ _ => False))
    (q : ∀ p h', h1 p = none → Sub h1 h' → h' p = some (.lst (((List.range s.xs.length).filter b).map f)) → Q (.ref p) h') : LcG i wt we env Q s h1 := by
  intro p fp
  refine ⟨hgd _ (Sub.new fp), lc_i (fun j hh => Sub h1 hh ∧ hh p = some (.lst (((List.range j).filter b).map f)) ∧ j ≤ s.xs.length) ?_ ?_ _ ⟨Sub.new fp, dup_same, Nat.zero_le _⟩⟩
  · rintro hh ⟨sb, e, _⟩
    exact q p hh fp sb e
  · rintro j x hh N hx ⟨sb, e, hj⟩ hN
    have hj' : j < s.xs.length := (List.getElem?_eq_some_iff.mp hx).1
    refine ht j x hh _ hx sb fun h2 sb2 => ?_
    have en : ((List.range (j + 1)).filter b).map f = ((List.range j).filter b).map f ++ (if b j = true then [f j] else []) := by
      rw [List.range_succ, List.filter_append, List.map_append]
      congr 1
      by_cases z : b j = true
      · simp [List.filter, z]
      · simp [List.filter, z]
    split
    · rename_i z
      refine hs j x h2 _ hx z (sb.trans sb2) fun h3 sb3 => ?_
      refine lstQ_i (sb3 _ _ (sb2 _ _ e)) ⟨?_, hgd _ (sub_dup0 ((sb.trans sb2).trans sb3) fp), hN _ ⟨sub_dup0 ((sb.trans sb2).trans sb3) fp, ?_, hj'⟩⟩
      · rw [List.length_map]
        have := List.length_filter_le b (List.range j)
        rw [List.length_range] at this
        omega
      · rw [dup_same, en, if_pos z]
    · rename_i z
      exact ⟨hgd _ (sb.trans sb2), hN _ ⟨sb.trans sb2, by rw [en, if_neg z, List.append_nil]; exact sb2 _ _ e, hj'⟩⟩
theorem lc_go {i : Nat} {we : WE} {env : Ev} {Q : QD} {s : Src} {h1 : DH} (f : Nat → D) (hgd : ∀ h', Sub h1 h' → s.gd h') (hl : s.xs.length < sizeLine)
    (hs : ∀ (j : Nat) (x : D) (h' : DH) (R : QD), s.xs[j]? = some x → Sub h1 h' → (∀ h'', Sub h' h'' → R (f j) h'') → we (env.set i (some x)) h' R (fun _ _ => False))
    (q : ∀ p h', h1 p = none → Sub h1 h' → h' p = some (.lst ((List.range s.xs.length).map f)) → Q (.ref p) h') : LcG i wYes we env Q s h1 := by
  refine lc_if (fun _ => true) f hgd hl (fun j x h' R _ _ k => k h' (Sub.refl _)) (fun j x h' R hx _ => hs j x h' R hx) fun p h' fp sb e => q p h' fp sb ?_
  rw [e, List.filter_eq_self.mpr (fun _ _ => rfl)]
theorem lc_up {i : Nat} {we : WE} {env : Ev} {Q : QD} {gd : DH → Prop} {h1 : DH} {lo : Int} {n : Nat} (f : Nat → D) (hgd : ∀ h', Sub h1 h' → gd h') (hl : n < sizeLine)
    (hs : ∀ (j : Nat) (h' : DH) (R : QD), j < n → Sub h1 h' → (∀ h'', Sub h' h'' → R (f j) h'') → we (env.set i (some (.int (lo + (j : Nat))))) h' R (fun _ _ => False))
    (q : ∀ p h', h1 p = none → Sub h1 h' → h' p = some (.lst ((List.range n).map f)) → Q (.ref p) h') : LcG i wYes we env Q ⟨upto lo n, gd⟩ h1 := by
  refine lc_go f hgd (by rw [upto_len]; exact hl) (fun j x h' R hx sb k => ?_) (by rw [upto_len]; exact q)
  obtain ⟨hj, rfl⟩ := upto_get hx
  exact hs j h' R hj sb k
/-! ### loops: of the slots ks alone the values change -/
def setAll : Ev → List Nat → List (Option D) → Ev
  | e, k :: ks, o :: os => setAll (e.set k o) ks os
  | e, _, _ => e
theorem zST {a : Option D} {l : Ev} {i : Nat} {d : Option D} : List.set (a :: l) (i + 1) d = a :: List.set l i d := rfl
theorem zSU {a : Option D} {l : Ev} {d : Option D} : List.set (a :: l) 0 d = d :: l := rfl
theorem zSA {e : Ev} {k : Nat} {ks : List Nat} {o : Option D} {os : List (Option D)} : setAll e (k :: ks) (o :: os) = setAll (e.set k o) ks os := rfl
theorem zSN {e : Ev} : setAll e [] [] = e := rfl
theorem for_f {gd : DH → Prop} {g : WG} {b : WS} {E : En} {xs : List D} {env0 : Ev} {h0 : DH} (ks : List Nat) (I : Nat → List (Option D) → DH → Prop) (vs0 : List (Option D)) (e0 : env0 = setAll env0 ks vs0) (hgd : ∀ h', Sub h0 h' → gd h') (i0 : I 0 vs0 h0)
    (hs : ∀ (i : Nat) (x : D) vs h (N : Ev → DH → Prop), xs[i]? = some x → Sub h0 h → I i vs h → (∀ vs2 e2 h2, I (i + 1) vs2 h2 → e2 = setAll env0 ks vs2 → Sub h0 h2 → N e2 h2) → g x (setAll env0 ks vs) h fun e1 h1 => b ⟨N, E.rt, E.nx, N, E.rx⟩ e1 h1)
    (hn : ∀ vs h, Sub h0 h → I xs.length vs h → E.nx (setAll env0 ks vs) h) : forW gd g b E xs env0 h0 := by
  refine for_ix (fun i env hh => Sub h0 hh ∧ ∃ vs, env = setAll env0 ks vs ∧ I i vs hh) ?_ ?_ _ _ ⟨Sub.refl _, vs0, e0, i0⟩
  · rintro env h ⟨s, vs, rfl, hi⟩; exact hn vs h s hi
  · rintro i x env h N hx ⟨s, vs, rfl, hi⟩ hN
    exact hs i x vs h N hx s hi fun vs2 e2 h2 i2 e s2 => hN _ _ (hgd _ s2) ⟨s2, vs2, e, i2⟩
theorem for_u {g : WG} {b : WS} {E : En} {lo : Int} {n : Nat} {env0 : Ev} {h0 : DH} (ks : List Nat) (I : Nat → List (Option D) → DH → Prop) (vs0 : List (Option D)) (e0 : env0 = setAll env0 ks vs0) (i0 : I 0 vs0 h0)
    (hs : ∀ (i : Nat) vs h (N : Ev → DH → Prop), i < n → Sub h0 h → I i vs h → (∀ vs2 e2 h2, I (i + 1) vs2 h2 → e2 = setAll env0 ks vs2 → Sub h0 h2 → N e2 h2) → g (.int (lo + (i : Nat))) (setAll env0 ks vs) h fun e1 h1 => b ⟨N, E.rt, E.nx, N, E.rx⟩ e1 h1)
    (hn : ∀ vs h, Sub h0 h → I n vs h → E.nx (setAll env0 ks vs) h) : forW (fun _ => True) g b E (upto lo n) env0 h0 := by
  refine for_f ks I vs0 e0 (fun _ _ => trivial) i0 (fun i x vs h N hx s hi hN => ?_) (by rw [upto_len]; exact hn)
  obtain ⟨hi', rfl⟩ := upto_get hx
  exact hs i vs h N hi' s hi hN
theorem while_f {c : WT} {b : WS} {E : En} {env0 : Ev} {h0 : DH} (ks : List Nat) (I : Nat → List (Option D) → DH → Prop) (vs0 : List (Option D)) (m0 : Nat) (e0 : env0 = setAll env0 ks vs0) (i0 : I m0 vs0 h0)
    (hs : ∀ (m : Nat) vs h (N : Ev → DH → Prop), Sub h0 h → I m vs h → (∀ m' vs2 e2 h2, m' < m → I m' vs2 h2 → e2 = setAll env0 ks vs2 → Sub h0 h2 → N e2 h2) → c (setAll env0 ks vs) h (fun k h1 => if k = true then b ⟨N, E.rt, E.nx, N, E.rx⟩ (setAll env0 ks vs) h1 else E.nx (setAll env0 ks vs) h1) (fun x h1 => E.rx x (setAll env0 ks vs) h1)) : wWhile c b E env0 h0 := by
  refine while_i (fun m env hh => Sub h0 hh ∧ ∃ vs, env = setAll env0 ks vs ∧ I m vs hh) m0 ?_ ⟨Sub.refl _, vs0, e0, i0⟩
  rintro m env h N ⟨s, vs, rfl, hi⟩ hN
  exact hs m vs h N s hi fun m' vs2 e2 h2 hm i2 e s2 => hN m' _ _ hm ⟨s2, vs2, e, i2⟩
/-- a meeting point behind a statement -/
theorem seq_m {s1 s2 : WS} {E : En} {env0 : Ev} {h0 : DH} (ks : List Nat) (M : List (Option D) → DH → Prop) (h1 : ∀ N : Ev → DH → Prop, (∀ vs e h, M vs h → e = setAll env0 ks vs → Sub h0 h → N e h) → s1 ⟨N, E.rt, E.bk, E.ct, E.rx⟩ env0 h0)
    (h2 : ∀ vs h, Sub h0 h → M vs h → s2 E (setAll env0 ks vs) h) : wSeq s1 s2 E env0 h0 := by
  refine seq_i fun N hN => h1 N fun vs e h m ee s => hN _ _ ?_
  subst ee; exact h2 vs h s m
/-! ### draws -/
def dg (ds : List Int) (z : Int) : Int := ds.getD z.toNat 0
theorem qat_dg {ds : List Int} {m : Nat} {z : Int} {h : DH} {Q : QD} (hd : ds.length = m) (h0 : 0 ≤ z) (h1 : z < (m : Nat)) (q : Q (.int (dg ds z)) h) : QAt h Q (atI (ds.map D.int) z) := by
  rw [atI_lt h0, List.getElem?_map, List.getElem?_eq_getElem (by omega)]
  unfold dg at q
  rw [List.getD_eq_getElem?_getD, List.getElem?_eq_getElem (by omega)] at q
  exact q
/-! ### plain data, piece by piece -/
theorem pl_nil {n : Nat} : ([] : List D).all (plN n) = true := rfl
theorem pl_cons {n : Nat} {x : D} {xs : List D} (h : plN n x = true) (t : xs.all (plN n) = true) : (x :: xs).all (plN n) = true := by rw [List.all_cons, h, t]; rfl
theorem pl_app {n : Nat} {xs ys : List D} (h : xs.all (plN n) = true) (t : ys.all (plN n) = true) : (xs ++ ys).all (plN n) = true := by rw [List.all_append, h, t]; rfl
theorem pl_map {α : Type} {n : Nat} {f : α → D} (l : List α) (h : ∀ x, plN n (f x) = true) : (l.map f).all (plN n) = true := by
  rw [List.all_map, List.all_eq_true]; intro x _; exact h x
theorem map_bl0 {n : Nat} {g : Nat → Bool} : ((List.range n).map fun k => D.bl (g k)) = ((List.range n).map g).map D.bl := by rw [List.map_map]; rfl
theorem allL_r {f : List Bool → Bool} {p : Addr} {n : Nat} {b : Nat → Bool} {h : DH} {Q : QD} (e : h p = some (.lst ((List.range n).map fun k => D.bl (b k)))) (q : Q (.bl (f ((List.range n).map b))) h) : gAllL f [.ref p] h Q := allL_i (by rw [e, map_bl0]) q
theorem all_range {n : Nat} {b : Nat → Bool} (h : ∀ k, k < n → b k = true) : ((List.range n).map b).all id = true := by
  rw [List.all_map, List.all_eq_true]; intro k hk; exact h k (List.mem_range.mp hk)
theorem all_rangeN {n : Nat} {b : Nat → Bool} (k : Nat) (hk : k < n) (h : b k = false) : ((List.range n).map b).all id = false := by
  rw [Bool.eq_false_iff]
  intro z
  rw [List.all_map, List.all_eq_true] at z
  have := z k (List.mem_range.mpr hk)
  rw [show (id ∘ b) k = b k from rfl, h] at this; cases this
end DL
namespace DL
open PySem PySem.Spec PyProof.Rows L2
/-! ### what an object holds for itself -/
structure Prv (hN h : DH) : Prop where
  s : Sub hN h
/-- hN speaks of nothing that h speaks of -/
def Dis (h hN : DH) : Prop := ∀ a o, h a = some o → hN a = none
theorem Dis.at {h hN : DH} {a : Addr} {o : DO} (d : Dis h hN) (e : h a = some o) : hN a = none := d a o e
theorem Dis.sub {h0 h hN : DH} (d : Dis h hN) (s : Sub h0 h) : Dis h0 hN := fun a o e => d a o (s a o e)
def one1 (a : Addr) (o : DO) : DH := fun b => if b = a then some o else none
def two2 (a : Addr) (o : DO) (c : Addr) (u : DO) : DH := fun b => if b = a then some o else if b = c then some u else none
theorem two2_a {a c : Addr} {o u : DO} : two2 a o c u a = some o := by unfold two2; rw [if_pos rfl]
theorem two2_c {a c : Addr} {o u : DO} (n : c ≠ a) : two2 a o c u c = some u := by unfold two2; rw [if_neg n, if_pos rfl]
theorem two2_prv {a c : Addr} {o u : DO} {h : DH} (e1 : h a = some o) (e2 : h c = some u) : Prv (two2 a o c u) h := ⟨fun b w e => by
  unfold two2 at e
  split at e
  · rename_i z; cases e; rw [z]; exact e1
  · split at e
    · rename_i z; cases e; rw [z]; exact e2
    · cases e⟩
theorem two2_dis {a c : Addr} {o u : DO} {h : DH} (e1 : h a = none) (e2 : h c = none) : Dis h (two2 a o c u) := fun b w e => by
  unfold two2
  rw [if_neg (fun z => by subst z; rw [e1] at e; cases e), if_neg (fun z => by subst z; rw [e2] at e; cases e)]
theorem one1_a {a : Addr} {o : DO} : one1 a o a = some o := by unfold one1; rw [if_pos rfl]
theorem one1_prv {a : Addr} {o : DO} {h : DH} (e1 : h a = some o) : Prv (one1 a o) h := ⟨fun b w e => by
  unfold one1 at e
  split at e
  · rename_i z; cases e; rw [z]; exact e1
  · cases e⟩
theorem one1_dis {a : Addr} {o : DO} {h : DH} (e1 : h a = none) : Dis h (one1 a o) := fun b w e => by
  unfold one1
  rw [if_neg (fun z => by subst z; rw [e1] at e; cases e)]
end DL
namespace DL
open PySem PySem.Spec PyProof.Rows L2
theorem ixQ_0 {n : Nat} {k : Nat → Prop} (h : 0 < n) (q : k 0) : ixQ n (.int 0) k := ixQ_i (j := 0) (ixN_nat (i := 0) h) q
theorem ixQ_n {n : Nat} {z : Int} {k : Nat → Prop} (h0 : 0 ≤ z) (h : z < (n : Nat)) (q : k z.toNat) : ixQ n (.int z) k := ixQ_i (j := z.toNat) (by
  obtain ⟨m, rfl⟩ := Int.eq_ofNat_of_zero_le h0
  rw [Int.toNat_natCast]; exact ixN_nat (by omega)) q
end DL
namespace DL
open PySem PySem.Spec PyProof.Rows L2
theorem plN_succ : ∀ (n : Nat) (x : D), plN n x = true → plN (n + 1) x = true
  | 0, x, h => by cases x <;> first | rfl | exact h | (simp [plN] at h; done)
  | n + 1, x, h => by
    cases x with
    | tup xs =>
      have h2 : xs.all (plN n) = true := by simpa [plN] using h
      refine plT ?_
      rw [List.all_eq_true] at h2 ⊢
      exact fun y hy => plN_succ n y (h2 y hy)
    | _ => first | rfl | exact h | (simp [plN] at h; done)
theorem plN_le {n m : Nat} {x : D} (h : plN n x = true) (hm : n ≤ m) : plN m x = true := by
  obtain ⟨k, rfl⟩ := Nat.le.dest hm
  induction k with
  | zero => exact h
  | succ k ih => exact plN_succ _ _ (ih (by omega))
theorem plA_le {n m : Nat} {xs : List D} (h : xs.all (plN n) = true) (hm : n ≤ m) : xs.all (plN m) = true := by
  rw [List.all_eq_true] at h ⊢
  exact fun y hy => plN_le (h y hy) hm
end DL
namespace DL
open PySem PySem.Spec PyProof.Rows L2
theorem geq_yesR {h : DH} {Q : QD} {neg : Bool} {n : Nat} {x y : D} (hn : n ≤ 20) (hy : plN n y = true) (e : x = y) (q : Q (.bl (!neg)) h) : gEq neg x y h Q := geq_yes hn (by rw [e]; exact hy) e q
theorem geqL_yesR {h : DH} {Q : QD} {neg : Bool} {n : Nat} {a b : Addr} {xs ys : List D} (hn : n ≤ 20) (ea : h a = some (.lst xs)) (eb : h b = some (.lst ys)) (hy : ys.all (plN n) = true) (e : xs = ys) (q : Q (.bl (!neg)) h) : gEq neg (.ref a) (.ref b) h Q :=
  geqL_yes hn ea eb (by rw [e]; exact hy) e q
end DL
namespace DL
open PySem PySem.Spec PyProof.Rows L2
theorem lc_upI {i : Nat} {we : WE} {env : Ev} {Q : QD} {gd : DH → Prop} {h1 : DH} {lo : Int} {n : Nat} (f : Nat → Int) (hgd : ∀ h', Sub h1 h' → gd h') (hl : n < sizeLine)
    (hs : ∀ (j : Nat) (h' : DH) (R : QD), j < n → Sub h1 h' → (∀ h'', Sub h' h'' → R (.int (f j)) h'') → we (env.set i (some (.int (lo + (j : Nat))))) h' R (fun _ _ => False))
    (q : ∀ p h', h1 p = none → Sub h1 h' → h' p = some (.lst (((List.range n).map f).map D.int)) → Q (.ref p) h') : LcG i wYes we env Q ⟨upto lo n, gd⟩ h1 :=
  lc_up (fun j => .int (f j)) hgd hl hs fun p h' a b e => q p h' a b (by rw [e, List.map_map]; rfl)
theorem lc_upB {i : Nat} {we : WE} {env : Ev} {Q : QD} {gd : DH → Prop} {h1 : DH} {lo : Int} {n : Nat} (f : Nat → Bool) (hgd : ∀ h', Sub h1 h' → gd h') (hl : n < sizeLine)
    (hs : ∀ (j : Nat) (h' : DH) (R : QD), j < n → Sub h1 h' → (∀ h'', Sub h' h'' → R (.bl (f j)) h'') → we (env.set i (some (.int (lo + (j : Nat))))) h' R (fun _ _ => False))
    (q : ∀ p h', h1 p = none → Sub h1 h' → h' p = some (.lst (((List.range n).map f).map D.bl)) → Q (.ref p) h') : LcG i wYes we env Q ⟨upto lo n, gd⟩ h1 :=
  lc_up (fun j => .bl (f j)) hgd hl hs fun p h' a b e => q p h' a b (by rw [e, List.map_map]; rfl)
end DL
namespace DL
open PySem PySem.Spec PyProof.Rows L2
theorem cut_fr1 {xs : List D} {k : Nat} : cutD xs (some ((k : Int) + 1)) none = xs.drop (k + 1) := by
  rw [show (k : Int) + 1 = ((k + 1 : Nat) : Int) by omega, cut_fr]
theorem cut_to1 {xs : List D} {k : Nat} : cutD xs none (some ((k : Int) + 1)) = xs.take (k + 1) := by
  rw [show (k : Int) + 1 = ((k + 1 : Nat) : Int) by omega, cut_to]
theorem cut_f1 {xs : List D} : cutD xs (some 1) none = xs.drop 1 := cut_fr (k := 1)
theorem cut_f2 {xs : List D} : cutD xs (some 2) none = xs.drop 2 := cut_fr (k := 2)
theorem cut_f3 {xs : List D} : cutD xs (some 3) none = xs.drop 3 := cut_fr (k := 3)
theorem cut_t1 {xs : List D} : cutD xs none (some 1) = xs.take 1 := cut_to (k := 1)
theorem cut_t2 {xs : List D} : cutD xs none (some 2) = xs.take 2 := cut_to (k := 2)
theorem cut_t3 {xs : List D} : cutD xs none (some 3) = xs.take 3 := cut_to (k := 3)
theorem cut_i {xs : List D} {z : Int} (h : 0 ≤ z) : cutD xs none (some z) = xs.take z.toNat := by
  obtain ⟨n, rfl⟩ := Int.eq_ofNat_of_zero_le h
  rw [cut_to, Int.toNat_natCast]
theorem cut_fi {xs : List D} {z : Int} (h : 0 ≤ z) : cutD xs (some z) none = xs.drop z.toNat := by
  obtain ⟨n, rfl⟩ := Int.eq_ofNat_of_zero_le h
  rw [cut_fr, Int.toNat_natCast]
theorem cut_m1 {xs : List D} : cutD xs none (some (-1)) = xs.dropLast := by
  unfold cutD
  rw [HT.sIx_none]
  have e : HT.sIx xs.length xs.length (some (-1)) = xs.length - 1 := by
    simp [HT.sIx]
    omega
  rw [e, List.drop_zero, Nat.sub_zero, List.dropLast_eq_take]
end DL
namespace DL
open PySem PySem.Spec PyProof.Rows L2
/-! ### loops that write what stands outside of hB -/
theorem for_fB {gd : DH → Prop} {g : WG} {b : WS} {E : En} {xs : List D} {env0 : Ev} {h0 : DH} (hB : DH) (ks : List Nat) (I : Nat → List (Option D) → DH → Prop) (vs0 : List (Option D)) (sB : Sub hB h0) (e0 : env0 = setAll env0 ks vs0) (hgd : ∀ i vs h', Sub hB h' → I i vs h' → gd h') (i0 : I 0 vs0 h0)
    (hs : ∀ (i : Nat) (x : D) vs h (N : Ev → DH → Prop), xs[i]? = some x → Sub hB h → I i vs h → (∀ vs2 e2 h2, I (i + 1) vs2 h2 → e2 = setAll env0 ks vs2 → Sub hB h2 → N e2 h2) → g x (setAll env0 ks vs) h fun e1 h1 => b ⟨N, E.rt, E.nx, N, E.rx⟩ e1 h1)
    (hn : ∀ vs h, Sub hB h → I xs.length vs h → E.nx (setAll env0 ks vs) h) : forW gd g b E xs env0 h0 := by
  refine for_ix (fun i env hh => Sub hB hh ∧ ∃ vs, env = setAll env0 ks vs ∧ I i vs hh) ?_ ?_ _ _ ⟨sB, vs0, e0, i0⟩
  · rintro env h ⟨s, vs, rfl, hi⟩; exact hn vs h s hi
  · rintro i x env h N hx ⟨s, vs, rfl, hi⟩ hN
    exact hs i x vs h N hx s hi fun vs2 e2 h2 i2 e s2 => hN _ _ (hgd _ _ _ s2 i2) ⟨s2, vs2, e, i2⟩
theorem for_uB {g : WG} {b : WS} {E : En} {lo : Int} {n : Nat} {env0 : Ev} {h0 : DH} (hB : DH) (ks : List Nat) (I : Nat → List (Option D) → DH → Prop) (vs0 : List (Option D)) (sB : Sub hB h0) (e0 : env0 = setAll env0 ks vs0) (i0 : I 0 vs0 h0)
    (hs : ∀ (i : Nat) vs h (N : Ev → DH → Prop), i < n → Sub hB h → I i vs h → (∀ vs2 e2 h2, I (i + 1) vs2 h2 → e2 = setAll env0 ks vs2 → Sub hB h2 → N e2 h2) → g (.int (lo + (i : Nat))) (setAll env0 ks vs) h fun e1 h1 => b ⟨N, E.rt, E.nx, N, E.rx⟩ e1 h1)
    (hn : ∀ vs h, Sub hB h → I n vs h → E.nx (setAll env0 ks vs) h) : forW (fun _ => True) g b E (upto lo n) env0 h0 := by
  refine for_fB hB ks I vs0 sB e0 (fun _ _ _ _ _ => trivial) i0 (fun i x vs h N hx s hi hN => ?_) (by rw [upto_len]; exact hn)
  obtain ⟨hi', rfl⟩ := upto_get hx
  exact hs i vs h N hi' s hi hN
theorem while_fB {c : WT} {b : WS} {E : En} {env0 : Ev} {h0 : DH} (hB : DH) (ks : List Nat) (I : Nat → List (Option D) → DH → Prop) (vs0 : List (Option D)) (m0 : Nat) (sB : Sub hB h0) (e0 : env0 = setAll env0 ks vs0) (i0 : I m0 vs0 h0)
    (hs : ∀ (m : Nat) vs h (N : Ev → DH → Prop), Sub hB h → I m vs h → (∀ m' vs2 e2 h2, m' < m → I m' vs2 h2 → e2 = setAll env0 ks vs2 → Sub hB h2 → N e2 h2) → c (setAll env0 ks vs) h (fun k h1 => if k = true then b ⟨N, E.rt, E.nx, N, E.rx⟩ (setAll env0 ks vs) h1 else E.nx (setAll env0 ks vs) h1) (fun x h1 => E.rx x (setAll env0 ks vs) h1)) : wWhile c b E env0 h0 := by
  refine while_i (fun m env hh => Sub hB hh ∧ ∃ vs, env = setAll env0 ks vs ∧ I m vs hh) m0 ?_ ⟨sB, vs0, e0, i0⟩
  rintro m env h N ⟨s, vs, rfl, hi⟩ hN
  exact hs m vs h N s hi fun m' vs2 e2 h2 hm i2 e s2 => hN m' _ _ hm ⟨s2, vs2, e, i2⟩
/-- an enumerated list -/
theorem for_enB {gd : DH → Prop} {g : WG} {b : WS} {E : En} {xs : List D} {env0 : Ev} {h0 : DH} (hB : DH) (ks : List Nat) (I : Nat → List (Option D) → DH → Prop) (vs0 : List (Option D)) (sB : Sub hB h0) (e0 : env0 = setAll env0 ks vs0) (hgd : ∀ i vs h', Sub hB h' → I i vs h' → gd h') (i0 : I 0 vs0 h0)
    (hs : ∀ (i : Nat) (x : D) vs h (N : Ev → DH → Prop), xs[i]? = some x → Sub hB h → I i vs h → (∀ vs2 e2 h2, I (i + 1) vs2 h2 → e2 = setAll env0 ks vs2 → Sub hB h2 → N e2 h2) → g (.tup [.int (i : Nat), x]) (setAll env0 ks vs) h fun e1 h1 => b ⟨N, E.rt, E.nx, N, E.rx⟩ e1 h1)
    (hn : ∀ vs h, Sub hB h → I xs.length vs h → E.nx (setAll env0 ks vs) h) : forW gd g b E (enumD 0 xs) env0 h0 := by
  refine for_fB hB ks I vs0 sB e0 hgd i0 (fun i x vs h N hx s hi hN => ?_) (by rw [enumD_len]; exact hn)
  obtain ⟨y, hy, rfl⟩ := enumD_get hx
  rw [Nat.zero_add]
  exact hs i y vs h N hy s hi hN
end DL
namespace DL
theorem ref_ne_tup {a : PySem.Addr} : ∀ xs : List D, D.ref a ≠ .tup xs := fun _ z => nomatch z
theorem sl_ne_tup {a : List D} : ∀ xs : List D, D.sl a ≠ .tup xs := fun _ z => nomatch z
end DL
namespace DL
theorem repLen {α : Type} {n : Nat} {xs : List α} : (List.replicate n xs).flatten.length = n * xs.length := by
  induction n with
  | zero => simp
  | succ n ih => rw [List.replicate_succ, List.flatten_cons, List.length_append, ih, Nat.succ_mul, Nat.add_comm]
end DL
namespace DL
open PySem PySem.Spec PyProof.Rows L2
theorem cut_63 {xs : List D} : cutD xs none (some 63) = xs.take 63 := cut_to (k := 63)
end DL
namespace DL
open PySem PySem.Spec PyProof.Rows L2
theorem zEIntCb {k : Bool} {h : DH} {Q : QD} : gIntC [.bl k] h Q = Q (.int (if k = true then 1 else 0)) h := by cases k <;> rfl
end DL
namespace HT
open PySem PyProof.Rows
section
open PySem.SeqAt
open PySem.AutoSeq1 (wpAny_loadPart')
open PySem.MeetsSeq PySem.MeetsSeq2 PySem.MeetsSeq3
variable {prog : Program} {w : World} {A : Around} {E : Value → Shared → Prop} {s : Shared}
theorem zip_drop {α : Type} (sel : Nat → Bool) (c : Nat) (hs : ∀ k, sel k = decide (k < c)) : ∀ (xs : List α) (n : Nat), (xs.zipIdx n).filterMap (fun p => if sel p.2 = true then none else some p.1) = xs.drop (c - n)
  | [], n => by simp
  | x :: xs, n => by
    rw [List.zipIdx_cons, List.filterMap_cons]
    have ih := zip_drop sel c hs xs (n + 1)
    by_cases h : n < c
    · have e : sel n = true := by rw [hs]; exact decide_eq_true h
      simp only [e, if_true]
      rw [ih, show c - n = (c - (n + 1)) + 1 by omega, List.drop_succ_cons]
    · have e : sel n = false := by rw [hs]; exact decide_eq_false h
      simp only [e, Bool.false_eq_true, if_false]
      rw [ih, show c - n = 0 by omega, show c - (n + 1) = 0 by omega, List.drop_zero, List.drop_zero]
theorem bounds_to {c n : Nat} (hc : c ≤ n) : sliceBounds none (some (c : Int)) none n = (0, (c : Int), 1) := by
  simp only [sliceBounds, Option.getD_none]
  have h2 : ¬ ((c : Int) < 0) := by omega
  simp only [h2, if_false, show (1 : Int) > 0 by decide, if_true]
  congr 1
  congr 1
  omega
theorem sel_to (c k : Nat) : (if (1 : Int) > 0 then (decide ((0 : Int) ≤ (k : Int)) && decide ((k : Int) < (c : Int)) && ((k : Int) - 0) % 1 == 0) else (decide ((c : Int) < (k : Int)) && decide ((k : Int) ≤ 0) && (0 - (k : Int)) % (-1) == 0)) = decide (k < c) := by
  rw [if_pos (by decide)]
  have h1 : decide ((0 : Int) ≤ (k : Int)) = true := decide_eq_true (by omega)
  have h2 : decide ((k : Int) < (c : Int)) = decide (k < c) := by by_cases h : k < c <;> simp [h]
  rw [h1, h2]
  simp
theorem delItem_to {l sl : Addr} {items : Array Value} {n : Nat} {vu : Value} {c : Nat} {Q : Unit → Shared → Prop}
    (e : s.heap.get? l = some { cls := .type "list", data := .seq items n }) (hs : s.heap.IsSliceOf sl .none vu .none) (pu : IsPart vu (some (c : Int))) (hc : c ≤ items.size) (hsz : items.size ≤ sizeLine)
    (h : ∀ f : Array Value → Array Value, (∀ its : List Value, f its.toArray = (its.drop c).toArray) → Q () { s with heap := s.heap.update l (Obj.mapSeq f) }) :
    wpAny (model prog w) A (delItem (.ref l) (.ref sl)) Q E s := by
  have hl : s.heap.IsList l items := PySem.IsL.isList e
  obtain ⟨os, hos, hcs, hds⟩ := id hs
  have hTs : s.TypeIs (.ref sl) "slice" := ⟨os, hos, hcs⟩
  have hstep : ¬ ((rawPart none == rawInt 0) = true) := Bool.false_ne_true
  refine wpAny_delItem_slot hl.typeIs (by decide) F.slot_list_delitem (wpAny_call_entry F.slot_list_delitem hl.typeIs F.entry_list_delitem ?_ (F.args_list_delitem_2 _ _))
  show wpAny _ _ (Builtin.List.listSubscript? (.ref sl) >>= _) _ _ s
  refine wpAny_bind ?_
  unfold Builtin.List.listSubscript?
  refine wpAny_bind (wpAny_specialOf hTs slice_no_index ?_)
  simp only [Option.isNone_none, if_true]
  refine wpAny_pure ?_
  show wpAny _ _ (typeOf (.ref sl) >>= _) _ _ s
  refine wpAny_bind (wpAny_typeOf hTs ?_)
  first
    | rw [if_neg (by decide)]
    | refine PySem.W.KFB.if_not (by decide) ?_
  rw [listSliceParts_eq]
  refine wpAny_bind (wpAny_bind (wpAny_field hos hds (x := .none) rfl (wpAny_bind (wpAny_listPart .none ?_))))
  rw [if_neg hstep]
  refine wpAny_bind (wpAny_field hos hds (x := .none) rfl (wpAny_bind (wpAny_listPart .none ?_)))
  refine wpAny_bind (wpAny_field hos hds (x := vu) rfl (wpAny_bind (wpAny_listPart pu (wpAny_pure ?_))))
  dsimp only
  refine wpAny_bind (wpAny_bind (wpAny_seqItems e rfl (wpAny_pure ?_)))
  refine wpAny_bind (wpAny_of_eq ((sliceIndices_raw none (some (c : Int)) none items.size (by simp)).trans (congrArg (pure : Int × Int × Int → Sem (Int × Int × Int)) (bounds_to hc))) ?_)
  refine wpAny_bind (wpAny_rule ?_)
  refine wpAny_bind (wpAny_updateSeq (hz := hsz) (_hz' := ?hz) e rfl ?_)
  case hz =>
    rw [List.size_toArray]
    refine Nat.le_trans (List.length_filterMap_le _ _) ?_
    rw [List.length_zipIdx, Array.length_toList]
    omega
  refine wpAny_bind (wpAny_letGo ?_)
  refine wpAny_pure ⟨.none, rfl, h _ ?k⟩
  intro its
  exact congrArg List.toArray ((zip_drop (fun k : Nat => if (1 : Int) > 0 then (decide ((0 : Int) ≤ (k : Int)) && decide ((k : Int) < (c : Int)) && ((k : Int) - 0) % 1 == 0) else (decide ((c : Int) < (k : Int)) && decide ((k : Int) ≤ 0) && (0 - (k : Int)) % (-1) == 0)) c (fun k => sel_to c k) its 0).trans (by rw [Nat.sub_zero]))
end
end HT
namespace L2
open PySem PySem.Spec PyProof.Rows
section
variable {X : Cx} {o e : Expr} {to te : TE} {pos tpos p2 : Pos}
/-- del xs[:e] -/
def tDelTo (to te : TE) : TS := fun D σ H => to σ H fun x H1 => te σ H1 fun y H2 => ∃ (l : Addr) (xs : List V) (k : Nat), x = .ref l ∧ y = .int (k : Int) ∧ H2 l = some (.lst xs) ∧ k ≤ xs.length ∧ D.nx σ (upd H2 l (.lst (xs.drop k)))
theorem ps_delTo (ho : PE X o to) (he : PE X e te) : PS X (.Delete [.Subscript o (.Slice none (some e) none p2) tpos] pos) (tDelTo to te) := by
  refine ⟨fun pins s σ H D I h => ?_⟩
  refine wpAny_Delete (wpAny_deleteEach_cons (wpAny_delete_Subscript (thn (ho.run pins s σ H _ I h) fun u s1 ⟨x, H1, I1, rx, q1⟩ => ?_)))
  refine wpAny_Slice ?_
  rw [evalPart_none]
  refine wpAny_pure ?_
  rw [evalPart_some]
  refine thn (he.run pins s1 σ H1 _ I1 q1) fun vu s3 ⟨y, H3, I3, ry, q3⟩ => ?_
  refine wpAny_pure ?_
  obtain ⟨l, xs, k, ex, ey, hH, hk, q3⟩ := q3
  subst ex
  subst ey
  cases (show u = Value.ref l from rx)
  obtain ⟨t, rfl⟩ := (show ∃ t, vu = Value.int (k : Int) t from ry)
  have I4 : Inv X pins σ H3 { s3 with heap := s3.heap.push { cls := .type "slice", data := .fields #[.none, .int (k : Int) t, .none] } } := I3.kept (t' := s3.toks) fun b ob q => Heap.get?_push_of_some _ q
  obtain ⟨z, its, n, r, hl, ee⟩ := I4.lstM hH
  refine HT.delItem_to (c := k) (sl := s3.heap.objs.size) ee (Heap.IsSliceOf.new ..) (.int _ _) (by rw [List.size_toArray]; omega) (by rw [List.size_toArray]; omega) fun f hf => ?_
  have I5 := I4.lset (its' := its.drop k) (t' := s3.toks) (f := f) hH ee (hf its) (r.drop k) (by rw [List.length_drop]; omega)
  exact wpAny_deleteEach_nil ⟨σ, _, I5, q3⟩
end
end L2
namespace HT
open PySem PyProof.Rows
section
open PySem.SeqAt
open PySem.AutoSeq1 (wpAny_loadPart')
open PySem.MeetsSeq PySem.MeetsSeq2 PySem.MeetsSeq3
theorem list_extend_tupD (l : Addr) (items : Array Value) (n : Nat) (b : Addr) (items2 : Array Value) (n2 : Nat) (dd : Option Addr) (sl : Array (Option Value)) (hs0 : ¬(!items.isEmpty && Builtin.List.listTooLong (items.size + items2.size)) = true) (hs1 : items.size ≤ sizeLine) (hs2 : items.size + items2.size ≤ sizeLine + 1) :
    Meets (Builtin.«list.extend» ⟨[.ref l, .ref b], []⟩) (fun _ R s => s.heap.get? l = some { cls := .type "list", dict := none, data := .seq items n, slots := #[] } ∧ s.heap.get? b = some { cls := .type "tuple", dict := dd, data := .seq items2 n2, slots := sl } ∧ R (.ok (.ret Value.none)) { s with heap := s.heap.update l (Obj.mapSeq fun x => x ++ items2), toks := s.toks }) :=
  .of_wp fun prog w A R s h => by
    obtain ⟨hp, g, d, tk, os⟩ := s; obtain ⟨hl, hb, h⟩ := h; have f1 := PySem.AutoSeq1.idx_int; have f2 := PySem.AutoSeq1.sub_tuple_tuple; have f3 := PySem.AutoSeq1.sub_list_list; have f4 := PySem.AutoSeq1.sub_tuple_list; have f5 := PySem.AutoSeq1.sub_list_tuple;
    have hz' : (items ++ items2).size ≤ sizeLine + 1 := by rw [Array.size_append]; exact hs2
    wp_walk using (wpAny_updateSeq hl rfl (hz := hs1) (_hz' := hz')), wpAny_loadPart' hl, wpAny_loadPart' hb; exact ⟨_, rfl, h⟩
end
end HT
namespace L2
open PySem PySem.Spec PyProof.Rows
section
variable {X : Cx}
def rExtendT : V → List V → Hp → VK → Prop := fun x vs H Q => ∃ l b xs zs, x = .ref l ∧ vs = [.ref b] ∧ H l = some (.lst xs) ∧ SqT X.K H b zs ∧ xs.length + zs.length ≤ sizeLine ∧ Q .non (upd H l (.lst (xs ++ zs)))
theorem mt_extendT : MtM X "list.extend" (rExtendT (X := X)) := by
  intro pins s σ H x vs v us Q I rx rv h
  obtain ⟨l, b, xs, zs, rfl, rfl, hH, hB, hz, q⟩ := h
  cases rx
  obtain ⟨u, rfl, ru⟩ := rv.one
  cases ru
  obtain ⟨z, its, n, r, hl, e⟩ := I.lstM hH
  obtain ⟨its2, r2, ⟨⟨cls, dd, dat, sl⟩, e2, hc, n2, hd⟩, z2⟩ := I.tuple hB
  have hc' : cls = .type "tuple" := hc
  have hd' : dat = .seq its2.toArray n2 := hd
  subst hc' hd'
  have l1 := r.length
  have l2 := r2.length
  have hsz : its.toArray.size + its2.toArray.size ≤ sizeLine := by rw [List.size_toArray, List.size_toArray]; omega
  have hlong : ¬ (!its.toArray.isEmpty && Builtin.List.listTooLong (its.toArray.size + its2.toArray.size)) = true := by
    rw [notLongL hsz, Bool.and_false]
    exact Bool.false_ne_true
  refine call_meets F.slot_list_extend ⟨_, e, rfl⟩ F.entry_list_extend (F.args_list_extend_2 _ _)
    (HT.list_extend_tupD l its.toArray n b its2.toArray n2 dd sl hlong (by rw [List.size_toArray]; omega) (by omega)) ⟨e, e2, ?_⟩
  refine ⟨.non, _, I.lset (its' := its ++ its2) hH e (by simp) (r.append r2) ?_, rfl, q⟩
  rw [List.length_append]
  omega
end
end L2
namespace DL
open PySem PySem.Spec PyProof.Rows L2
section
variable {X : Cx} {o e : Expr} {es : List Expr} {wo we : WE} {ws : WA} {apos cpos pos tpos p2 : Pos}
/-- xs.extend(ys): ys a list or a tuple -/
def wExtend (wo : WE) (ws : WA) : WE := fun env h Q Qx => wo env h (fun d h1 => lstQ h1 d (fun _ _ => True) ∧ ws env h1 (fun ds h2 => One (fun x => ItQ h2 x fun ys => (∀ zs, x ≠ .sl zs) ∧ lstQ h2 d fun a xs => xs.length + ys.length ≤ sizeLine ∧ Q .non (dup h2 a (.lst (xs ++ ys)))) ds) Qx) Qx
theorem de_extend (ho : DE X o wo) (ha : DA X (e :: es) ws) (hbase : attributeBase o "extend" X.env (eval o X.env) = eval o X.env := by rfl)
    (hfew : ((backTo cpos (starEach (e :: es) X.env)).all (fun x => !x.1) && (backToKw cpos (keywordEach [] X.env)).all (fun x => x.1.isSome) && decide ((e :: es).length + ([] : List Keyword).length + (if ([] : List Keyword).isEmpty then 0 else 1) < 30)) = true := by rfl)
    (hline : (apos.endLine == cpos.line) = true := by rfl) (hs : starEach (e :: es) X.env = (false, eval e X.env) :: starEach es X.env := by rfl) (hpl : (backTo cpos (starEach es X.env)).any (·.1) = false := by rfl) :
    DE X (.Call (.Attribute o "extend" apos) (e :: es) [] cpos) (wExtend wo ws) :=
  ⟨fun W ck => (pe_bm PySem.F.plainAttrs_list PySem.F.slot_list_extend PySem.F.type_list_extend (MtR.or mt_extend mt_extendT) (ho.ok W ck) (ha.ok W ck) hbase hfew hline hs hpl).imp fun σ H Q ⟨env, h, Qn, Qx, rs, rw_, q, kq, kx⟩ =>
    ⟨env, h, _, Qx, rs, rw_, q, fun d h1 v H1 p1 r1 rd ⟨q0, q1⟩ => by
      obtain ⟨a, xs, rfl, e1, _⟩ := q0.get
      cases rd
      obtain ⟨vs, hv, rr⟩ := r1 _ _ e1
      refine ⟨.inl ⟨rfl, _, SqL.of hv⟩, env, h1, _, Qx, rs.mono p1, r1, q1, fun ds h2 us H2 p2 r2 rds q2 => ?_, kx.mono p1⟩
      obtain ⟨y, yv, rfl, rfl, ry, q2⟩ := one_inv rds q2
      obtain ⟨ys, ei, nsl, q3⟩ := q2.get
      obtain ⟨a', xs2, ea, e2, hz, q3⟩ := q3.get
      cases ea
      obtain ⟨vs2, hv2, rr2⟩ := r2 _ _ e2
      have w : Wr (H2 a) := by rw [hv2]; exact True.intro
      have fin : ∀ (zs : List V), RDs X.K H2 ys zs → Q .non (upd H2 a (.lst (vs2 ++ zs))) := fun zs rz => by
        have pw : Pe H2 (upd H2 a (.lst (vs2 ++ zs))) := Pe.wr w
        exact kq _ _ _ _ ((p1.trans p2).trans pw) (r2.set w (show RO X.K _ a (.lst (xs2 ++ ys)) from ⟨_, upd_same, (rr2.append rz).mono pw⟩)) .non q3
      cases y with
      | tup zs =>
        cases ei
        obtain ⟨b, us, rfl, t, r⟩ := ry.tup_inv
        exact .inr ⟨a, b, vs2, us, rfl, rfl, hv2, SqT.of t, by rw [← rr2.length, ← r.length]; exact hz, fin us r⟩
      | sl zs => exact absurd rfl (nsl zs)
      | ref b =>
        cases ry
        unfold items at ei
        dsimp only at ei
        split at ei
        · rename_i zs e3
          cases ei
          obtain ⟨us, hu, ru⟩ := r2 _ _ e3
          exact .inl ⟨a, b, vs2, us, rfl, rfl, hv2, hu, by rw [← rr2.length, ← ru.length]; exact hz, fin us ru⟩
        · cases ei
      | _ => (cases ei), kx⟩⟩
/-- xs.clear() -/
def wClear (wo : WE) : WE := fun env h Q Qx => wo env h (fun d h1 => lstQ h1 d fun a _ => Q .non (dup h1 a (.lst []))) Qx
theorem de_clear (ho : DE X o wo) (hbase : attributeBase o "clear" X.env (eval o X.env) = eval o X.env := by rfl) (hline : (apos.endLine == cpos.line) = true := by rfl) : DE X (.Call (.Attribute o "clear" apos) [] [] cpos) (wClear wo) :=
  ⟨fun W ck => (pe_bm0 PySem.F.plainAttrs_list PySem.F.slot_list_clear PySem.F.type_list_clear mt_clear (ho.ok W ck) hbase hline).imp fun σ H Q ⟨env, h, Qn, Qx, rs, rw_, q, kq, kx⟩ =>
    ⟨env, h, _, Qx, rs, rw_, q, fun d h1 v H1 p1 r1 rd q1 => by
      obtain ⟨a, xs, rfl, e1, q1⟩ := q1.get
      cases rd
      obtain ⟨vs, hv, rr⟩ := r1 _ _ e1
      have w : Wr (H1 a) := by rw [hv]; exact True.intro
      have pw : Pe H1 (upd H1 a (.lst [])) := Pe.wr w
      exact ⟨.inl ⟨rfl, _, SqL.of hv⟩, a, vs, rfl, rfl, hv, kq _ _ _ _ (p1.trans pw) (r1.set w (show RO X.K _ a (.lst []) from ⟨[], upd_same, .nil⟩)) .non q1⟩, kx⟩⟩
/-- del xs[:e] -/
def wDelTo (wo we : WE) : WS := fun E env h => wo env h (fun d h1 => we env h1 (fun i h2 => match i with
  | .int k => lstQ h2 d fun a xs => 0 ≤ k ∧ k.toNat ≤ xs.length ∧ E.nx env (dup h2 a (.lst (xs.drop k.toNat)))
  | _ => False) (fun x h' => E.rx x env h')) (fun x h' => E.rx x env h')
theorem ds_delTo (ho : DE X o wo) (he : DE X e we) : DS X (.Delete [.Subscript o (.Slice none (some e) none p2) tpos] pos) (wDelTo wo we) :=
  ⟨fun W ck => (ps_delTo (ho.ok W ck) (he.ok W ck)).imp fun D σ H ⟨E, env, h, rs, rw_, q, ks⟩ =>
    ⟨env, h, _, _, rs, rw_, q, fun od h1 ov H1 p1 r1 ro q1 => ⟨env, h1, _, _, rs.mono p1, r1, q1, fun idd h2 iv H2 p2 r2 ri q2 => by
      cases idd <;> try exact q2.elim
      rename_i k
      obtain ⟨a, xs, rfl, e1, k0, kl, q3⟩ := q2.get
      cases ro
      cases ri
      obtain ⟨vs, hv, rr⟩ := r2 _ _ e1
      have w : Wr (H2 a) := by rw [hv]; exact True.intro
      have pw : Pe H2 (upd H2 a (.lst (vs.drop k.toNat))) := Pe.wr w
      have p := (p1.trans p2).trans pw
      exact ⟨a, vs, k.toNat, rfl, by rw [Int.toNat_of_nonneg k0], hv, by rw [← rr.length]; exact kl, ks.nx env _ σ _ p (rs.mono p) (r2.set w (show RO X.K _ a (.lst (xs.drop k.toNat)) from ⟨_, upd_same, (rr.drop _).mono pw⟩)) q3⟩, (ks.mono p1).kx (rs.mono p1)⟩, ks.kx rs⟩⟩
theorem zEExtend {env : Ev} {h : DH} {Q : QD} {Qx : QX} : wExtend wo ws env h Q Qx = wo env h (fun d h1 => lstQ h1 d (fun _ _ => True) ∧ ws env h1 (fun ds h2 => One (fun x => ItQ h2 x fun ys => (∀ zs, x ≠ .sl zs) ∧ lstQ h2 d fun a xs => xs.length + ys.length ≤ sizeLine ∧ Q .non (dup h2 a (.lst (xs ++ ys)))) ds) Qx) Qx := rfl
theorem zEClear {env : Ev} {h : DH} {Q : QD} {Qx : QX} : wClear wo env h Q Qx = wo env h (fun d h1 => lstQ h1 d fun a _ => Q .non (dup h1 a (.lst []))) Qx := rfl
theorem zEDelTo {E : En} {env : Ev} {h : DH} : wDelTo wo we E env h = wo env h (fun d h1 => we env h1 (fun i h2 => match i with
  | .int k => lstQ h2 d fun a xs => 0 ≤ k ∧ k.toNat ≤ xs.length ∧ E.nx env (dup h2 a (.lst (xs.drop k.toNat)))
  | _ => False) (fun x h' => E.rx x env h')) (fun x h' => E.rx x env h') := rfl
theorem tup_ne_sl {xs : List D} : ∀ zs : List D, D.tup xs ≠ .sl zs := fun _ z => nomatch z
theorem ref_ne_sl {a : Addr} : ∀ zs : List D, D.ref a ≠ .sl zs := fun _ z => nomatch z
end
end DL
namespace DL
open PySem PySem.Spec PyProof.Rows L2
section
variable {X : Cx}
def gMin2 : GC := fun xs h Q => match xs with
  | [.int i, .int j] => Q (.int (if j < i then j else i)) h
  | _ => False
def gMax2 : GC := fun xs h Q => match xs with
  | [.int i, .int j] => Q (.int (if j > i then j else i)) h
  | _ => False
theorem c_min2 (hc : X.calm = true := by rfl) : OpC X (.builtin "min") gMin2 := by
  refine ⟨_, call_min2 hc, ?_⟩
  intro xs h Qn H vs Q rds rw_ q kq
  unfold gMin2 at q
  split at q
  · cases rds with
    | cons rd t =>
      cases t with
      | cons rd2 t => cases t; cases rd; cases rd2; exact ⟨_, _, rfl, kq.here rw_ (.int _) q⟩
  · exact q.elim
theorem c_max2 (hc : X.calm = true := by rfl) : OpC X (.builtin "max") gMax2 := by
  refine ⟨_, call_max2 hc, ?_⟩
  intro xs h Qn H vs Q rds rw_ q kq
  unfold gMax2 at q
  split at q
  · cases rds with
    | cons rd t =>
      cases t with
      | cons rd2 t => cases t; cases rd; cases rd2; exact ⟨_, _, rfl, kq.here rw_ (.int _) q⟩
  · exact q.elim
theorem zEMin2 {i j : Int} {h : DH} {Q : QD} : gMin2 [.int i, .int j] h Q = Q (.int (if j < i then j else i)) h := rfl
theorem zEMax2 {i j : Int} {h : DH} {Q : QD} : gMax2 [.int i, .int j] h Q = Q (.int (if j > i then j else i)) h := rfl
end
end DL
namespace L2
open PySem PySem.Spec PyProof.Rows HT
section
variable {prog : Program} {w : World} {A : Around} {E : Value → Shared → Prop} {s : Shared}
theorem no_tuple_iadd : typeLookup (.type "tuple") (dunderI "add") = pure none := by rw [typeLookup_type, builtinLookup_eq_fast]; kernel_rfl
theorem iconcat_meets' {T id : String} {B : Builtin} {a b : Value} {S : PySem.Spec} {Q : Value → Shared → Prop} (ha : s.TypeIs a T) (hb : s.TypeIs b T) (hno : typeLookup (.type T) (dunderI "add") = pure none)
    (hfill : fillsNumberSlot (.type T) "add" = pure false) (hseq : seqSlot? (.type T) "__add__" = pure (some (.builtin id))) (slot : Slot T "__add__" id)
    (entry : entryFor table id = some B) (args : argsOk id ⟨[a, b], []⟩) (g : Meets (B ⟨[a, b], []⟩) S) (h : S A (wants Q E) s) : wpAny (model prog w) A (inplaceOp .Add a b) Q E s :=
  wpAny_inplaceOp_concat ha hb hno hfill hseq (call_meets slot ha entry args g h)
theorem icat_tup {t b : Addr} {vs ws : List Value} {Q : Value → Shared → Prop} (ht : IsTup s.heap t vs.toArray) (hb : IsTup s.heap b ws.toArray) (h0 : vs = [] → Q (.ref b) s)
    (h1 : vs ≠ [] → ws = [] → Q (.ref t) s) (h2 : vs ≠ [] → ws ≠ [] → Q (.ref s.heap.objs.size) { s with heap := s.heap.push { cls := .type "tuple", data := .seq (vs ++ ws).toArray } })
    (hsz : vs.length + ws.length ≤ sizeLine) : wpAny (model prog w) A (inplaceOp .Add (.ref t) (.ref b)) Q E s := by
  obtain ⟨⟨cls, dd, data, sl⟩, ho, hc, n, hd⟩ := id ht
  obtain ⟨⟨cls2, dd2, data2, sl2⟩, ho2, hc2, n2, hd2⟩ := id hb
  simp only at hc hd hc2 hd2
  subst hc hd hc2 hd2
  have e : vs.toArray ++ ws.toArray = (vs ++ ws).toArray := by simp
  by_cases hv : vs = []
  · exact iconcat_meets' ⟨_, ho, rfl⟩ ⟨_, ho2, rfl⟩ no_tuple_iadd noFill_tuple_add seq_tuple_add PySem.F.slot_tuple_add PySem.F.entry_tuple_add (PySem.F.args_tuple_add_2 _ _)
      (tuple_addW0 t b vs.toArray ws.toArray n n2 dd dd2 sl sl2 (by simp [hv])) ⟨ho, ho2, h0 hv⟩
  · by_cases hw : ws = []
    · exact iconcat_meets' ⟨_, ho, rfl⟩ ⟨_, ho2, rfl⟩ no_tuple_iadd noFill_tuple_add seq_tuple_add PySem.F.slot_tuple_add PySem.F.entry_tuple_add (PySem.F.args_tuple_add_2 _ _)
        (tuple_addW1 t b vs.toArray ws.toArray n n2 dd dd2 sl sl2 (by simpa using hv) (by simp [hw])) ⟨ho, ho2, h1 hv hw⟩
    · refine iconcat_meets' ⟨_, ho, rfl⟩ ⟨_, ho2, rfl⟩ no_tuple_iadd noFill_tuple_add seq_tuple_add PySem.F.slot_tuple_add PySem.F.entry_tuple_add (PySem.F.args_tuple_add_2 _ _)
        (tuple_addW2 t b vs.toArray ws.toArray n n2 dd dd2 sl sl2 (by simpa using hv) (by simpa using hw) (by rw [List.size_toArray, List.size_toArray]; exact hsz)) ⟨ho, ho2, ?_⟩
      rw [e]
      exact h2 hv hw
end
section
variable {X : Cx}
theorem ip_catA : PIp X .Add (rCatA X.K) := by
  intro pins s σ H x y v u Q I rx ry h
  obtain ⟨a, b, xs, ys, rfl, rfl, ha, hb, hz, q0, q1, q2⟩ := h
  cases rx
  cases ry
  obtain ⟨its, r1, p1, _⟩ := I.tuple ha
  obtain ⟨its2, r2, p2, _⟩ := I.tuple hb
  refine icat_tup p1 p2 (fun z => ⟨.ref b, H, I, rfl, q0 (r1.nil_iff.mp z)⟩) (fun hv z => ⟨.ref a, H, I, rfl, q1 (fun w => hv (r1.nil_iff.mpr w)) (r2.nil_iff.mp z)⟩) (fun hv z => ?_) (by rw [← r1.length, ← r2.length]; exact hz)
  refine ⟨.ref s.heap.objs.size, _, I.laid (t' := s.toks) (o := .tup (xs ++ ys)) (fun b ob q => Heap.get?_push_of_some _ q) (Nat.le_refl _) ?_, rfl, q2 (fun w => hv (r1.nil_iff.mpr w)) (fun w => z (r2.nil_iff.mpr w)) _ (I.hok.fresh (Nat.le_refl _))⟩
  exact ⟨by rw [List.length_append]; exact hz, _, r1.append r2, IsTup.new _ _⟩
end
end L2
namespace DL
open PySem PySem.Spec PyProof.Rows L2
section
variable {X : Cx} {e : Expr} {we : WE} {x : Str} {pos pos' : Pos}
/-- x += e, tuples -/
def wAugT (i : Nat) (we : WE) : WS := fun E env h => match env[i]? with
  | some (some (.tup xs)) => we env h (fun d h1 => match d with
    | .tup ys => xs.length + ys.length ≤ sizeLine ∧ E.nx (env.set i (some (.tup (xs ++ ys)))) h1
    | _ => False) (fun x h1 => E.rx x env h1)
  | _ => False
theorem ds_addT {i : Nat} (hN : X.N.Nodup) (he : DE X e we) (hi : X.N[i]? = some x := by rfl) (hx : Loc X.env.scope x := by first | exact Or.inl rfl | exact Or.inr rfl) (hf : X.fn x = true ∨ X.env.scope.names.lookup x = some .local := by first | exact .inl rfl | exact .inr rfl) :
    DS X (.AugAssign (.Name x pos') .Add e pos) (wAugT i we) := ⟨fun W ck => (ps_aug hN hi hx (he.ok W ck) ip_catA hf).imp fun D σ H ⟨E, env, h, rs, rw_, q, ks⟩ => by
  unfold wAugT at q
  split at q
  · rename_i xs e1
    obtain ⟨v, e2, rv⟩ := rs.get e1
    obtain ⟨a, vs, rfl, ta, ra⟩ := rv.tup_inv
    refine ⟨_, e2, env, h, _, _, rs, rw_, q, fun d h1 v H1 p1 r1 rd q1 => ?_, ks.kx rs⟩
    cases d <;> try exact q1.elim
    rename_i ys
    obtain ⟨b, ws, rfl, tb, rb⟩ := rd.tup_inv
    obtain ⟨hz, q1⟩ := q1
    have ta1 := p1.tup _ _ ta
    have ra1 := ra.mono p1
    refine ⟨a, b, vs, ws, rfl, rfl, SqT.of ta1, SqT.of tb, by rw [← ra1.length, ← rb.length]; exact hz, fun e0 => ?_, fun e0 e3 => ?_, fun _ _ p hp => ?_⟩
    · subst e0
      cases ra1
      exact ks.nx _ h1 _ H1 p1 ((rs.mono p1).set i (.tup tb rb)) r1 q1
    · subst e3
      cases rb
      rw [List.append_nil] at q1
      exact ks.nx _ h1 _ H1 p1 ((rs.mono p1).set i (.tup ta1 ra1)) r1 q1
    · have pn := Pe.new (o := .tup (vs ++ ws)) hp
      exact ks.nx _ h1 _ _ (p1.trans pn) ((rs.mono (p1.trans pn)).set i (.tup upd_same ((ra1.append rb).mono pn))) (r1.beside hp) q1
  · exact q.elim⟩
theorem zEAugT {i : Nat} {E : En} {env : Ev} {h : DH} : wAugT i we E env h = wVar i env h (fun d _ => match d with
  | .tup xs => we env h (fun d h1 => match d with
    | .tup ys => xs.length + ys.length ≤ sizeLine ∧ E.nx (env.set i (some (.tup (xs ++ ys)))) h1
    | _ => False) (fun x h1 => E.rx x env h1)
  | _ => False) (fun _ _ => False) := by
  unfold wAugT wVar
  cases env[i]? with
  | none => rfl
  | some o =>
    cases o with
    | none => rfl
    | some d => cases d <;> rfl
end
end DL
namespace HT
open PySem PyProof.Rows
open Sem (wp)
open AutoSeq1 (wpAny_loadPart')
theorem meets_enumerate_newT (l : Addr) (items : Array Value) (n : Nat) (dct : Option Addr) (sl : Array (Option Value)) :
    Meets (Builtin.«enumerate.__new__» ⟨[.type "enumerate", .ref l], []⟩) (fun _ R s => s.heap.get? l = some { cls := .type "tuple", dict := dct, data := .seq items n, slots := sl } ∧
      R (.ok (.ret (.ref (s.heap.push { cls := .type "tuple_iterator", data := .fields #[.ref l, .int 0 0] }).objs.size)))
        { s with heap := (s.heap.push { cls := .type "tuple_iterator", data := .fields #[.ref l, .int 0 0] }).push { cls := .type "enumerate", data := .fields #[.none, .bool false, .ref s.heap.objs.size, rawInt 0, .none, .none] } }) :=
  .of_wp fun prog w A R s h => by
    obtain ⟨hp, g, d, tk, os⟩ := s; obtain ⟨hl, h⟩ := h
    have hsub := sub_enumerate
    have hL : Heap.IsTuple (Shared.heap ⟨hp, g, d, tk, os⟩) l items := ⟨_, hl, rfl, n, rfl⟩
    wp_walk using wpAny_loadPart' hl
    refine wpAny_stack_any fun st => wpAny_pure ?_
    split
    · rename_i c _ _ _ _ _
      cases (c == Value.type "enumerate")
      · wp_walk using wpAny_loadPart' hl, wpAny_pyIter_tuple hL
        exact ⟨_, rfl, h⟩
      · wp_walk using wpAny_loadPart' hl, wpAny_pyIter_tuple hL
        exact ⟨_, rfl, h⟩
    · wp_walk using wpAny_loadPart' hl, wpAny_pyIter_tuple hL
      exact ⟨_, rfl, h⟩
section
variable {prog : Program} {w : World} {A : Around} {E : Value → Shared → Prop} {s : Shared}
theorem call_enumerate_tuple {l : Addr} {items : Array Value} {Q : Value → Shared → Prop} (hL : s.heap.IsTuple l items)
    (h : ∀ h', IsEnum h' (s.heap.objs.size + 1) s.heap.objs.size 0 .none → h'.IsTupleIter s.heap.objs.size l 0 → h'.objs.size = s.heap.objs.size + 2 →
      (∀ b o, s.heap.get? b = some o → h'.get? b = some o) → Q (.ref (s.heap.objs.size + 1)) { s with heap := h' }) :
    wpAny (model prog w) A (call (.type "enumerate") [.ref l]) Q E s := by
  obtain ⟨⟨c, dct, dt, sl⟩, hl, hc, n, hd⟩ := hL
  replace hc : c = .type "tuple" := hc
  replace hd : dt = .seq items n := hd
  subst hc hd
  refine callType_new F.called_enumerate (by decide) (F.typeCall_enumerate_1 _) (F.newCall_enumerate_1 _) (fun obj => F.args_object_init_2 obj _) F.entry_enumerate_new
    (meets_enumerate_newT l items n dct sl) ⟨hl, ?_⟩
  have hz : (s.heap.push { cls := .type "tuple_iterator", data := .fields #[.ref l, .int 0 0] }).objs.size = s.heap.objs.size + 1 := Heap.size_push ..
  show _ ∧ _
  rw [hz]
  have he : IsEnum ((s.heap.push { cls := .type "tuple_iterator", data := .fields #[.ref l, .int 0 0] }).push
      { cls := .type "enumerate", data := .fields #[.none, .bool false, .ref s.heap.objs.size, rawInt 0, .none, .none] }) (s.heap.objs.size + 1) s.heap.objs.size 0 .none := by
    have := Heap.get?_push_size (s.heap.push { cls := .type "tuple_iterator", data := .fields #[.ref l, .int 0 0] })
      (o := { cls := .type "enumerate", data := .fields #[.none, .bool false, .ref s.heap.objs.size, rawInt 0, .none, .none] }) rfl
    rw [hz] at this; exact this
  refine ⟨⟨_, he, rfl⟩, h _ he ⟨_, Heap.get?_push_of_some _ (Heap.get?_push_size _ rfl), rfl, rfl⟩ (by rw [Heap.size_push, hz]) fun b o x => Heap.get?_push_of_some _ (Heap.get?_push_of_some _ x)⟩
theorem wpAny_pyNext_enum_endT {e it l : Addr} {i : Nat} {items : Array Value} {old : Value} {Q : Option Value → Shared → Prop} (hh : A.handled = none)
    (he : IsEnum s.heap e it i old) (hit : s.heap.IsTupleIter it l i) (hl : s.heap.IsTuple l items) (hx : items[i]? = none)
    (hQ : ∀ h', Heap.ExtBut it s.heap h' → Q none { s with heap := h' }) : wpAny (model prog w) A (pyNext (.ref e)) Q E s := by
  have hT : s.TypeIs (.ref e) "enumerate" := ⟨_, he, rfl⟩
  unfold pyNext
  refine wpAny_bind (wpAny_attempt (wpAny_callSpecial?_slot (name := Str.ofString "__next__") hT F.slot_enumerate_next
    (wpAny_call_entry F.slot_enumerate_next hT F.entry_enumerate_next ?_ (F.args_enumerate_next_1 _))))
  show wpAny _ _ (field (.ref e) 2 >>= _) _ _ _
  refine wpAny_bind (wpAny_field he rfl (x := .ref it) rfl ?_)
  refine wpAny_bind (wpAny_nextOf_tuple_end hh hit hl hx fun h' x he' hx' => ?_)
  obtain ⟨o, ho, hc⟩ := hx'
  refine wpAny_bind (wpAny_isInstance (T := "StopIteration") (b := true) ⟨o, ho, hc⟩ isSubtype_stop ?_)
  exact wpAny_pure (hQ _ he')
end
end HT
namespace L2
open PySem PySem.Spec PyProof.Rows
/-- the tuple at a, each item in a new pair -/
def IteT (K : PySem.W.Frag) (a : Addr) : It :=
  ⟨fun i H => ∃ (xs : List V) (x : V), SqT K H a xs ∧ xs[i]? = some x, fun i H v H' => ∃ T x, v = .ref T ∧ H T = none ∧ H' = upd H T (.tup [.int (i : Nat), x]) ∧ ∀ xs, SqT K H a xs → xs[i]? = some x, fun i H => ∃ xs : List V, SqT K H a xs ∧ xs.length ≤ i⟩
theorem tup_apart {h : Heap} {e it a : Addr} {k : Int} {i : Nat} {old : Value} {items : Array Value} (he : IsEnum h e it k old) (hit : h.IsTupleIter it a i) (ht : h.IsTuple a items) : a ≠ it ∧ e ∉ [it, a] ∧ e ≠ it := by
  obtain ⟨o1, g1, c1, _⟩ := hit
  obtain ⟨o2, g2, c2, _⟩ := ht
  have n1 : a ≠ it := fun z => by
    subst z; rw [g1] at g2; cases g2; rw [c1] at c2; exact absurd c2 (by decide)
  have n2 : e ≠ it := fun z => by
    subst z
    have he' : h.get? e = _ := he
    rw [g1] at he'; cases he'; exact absurd c1 (show ¬ (Value.type "enumerate" = Value.type "tuple_iterator") by decide)
  have n3 : e ≠ a := fun z => by
    subst z
    have he' : h.get? e = _ := he
    rw [g2] at he'; cases he'; exact absurd c2 (show ¬ (Value.type "enumerate" = Value.type "tuple") by decide)
  exact ⟨n1, by simp [n2, n3], n2⟩
theorem turn_enumT {P : Program} {w : World} {K : PySem.W.Frag} {elts : List Expr} {kk : Nat} {tpos : Pos} (a e it : Addr) :
    Turn P w K (.Tuple elts kk tpos) (IteT K a) [e, it] e (fun i h => (∃ old, IsEnum h e it ((i : Nat) : Int) old) ∧ h.IsTupleIter it a i ∧ e ≠ it) where
  mem := by simp
  obj := fun i h st b hb => by
    obtain ⟨⟨old, he⟩, ⟨o, ho, hc, hd⟩, _⟩ := st
    have e' : b = e ∨ b = it := by simpa using hb
    rcases e' with z | z
    · rw [z]; exact ⟨_, he, fun v q => nomatch q⟩
    · rw [z]; exact ⟨o, ho, fun v q => by rw [hd] at q; cases q⟩
  keep := fun i h h' st k => let ⟨⟨old, he⟩, hi, hne⟩ := st; ⟨⟨old, k e (by simp) _ he⟩, hi.at fun o q => k it (by simp) o q, hne⟩
  item := by
    intro X hP hw hK hc i pins s σ H E I hf st hg
    subst hP hw hK
    obtain ⟨⟨old, he⟩, hit, hne⟩ := st
    obtain ⟨xs, x, hq, hx⟩ := hg
    obtain ⟨its, rv, p, hz⟩ := I.tuple hq
    have p : s.heap.IsTuple a its.toArray := p
    obtain ⟨u, hu, ru⟩ := rv.get hx
    obtain ⟨n1, n2, _⟩ := tup_apart he hit p
    have hel : e < s.heap.objs.size := Heap.lt_size he
    have hil : it < s.heap.objs.size := by obtain ⟨_, q, _⟩ := hit; exact Heap.lt_size q
    have hlt : i < its.toArray.size := by rw [List.size_toArray]; exact (List.getElem?_eq_some_iff.mp hu).1
    refine wpAny_pyNext_enum_itemD (Draws.tuple (A := X.A.in1) (I.ok.hd hc) it a n1 its.toArray) he ⟨hit, p⟩ hlt hne n2 fun y h' tk hy ho hst' hT hsz hk => ?_
    have ey : y = u := by
      have h1 : its[i]? = some y := by simpa using hy
      rw [hu] at h1; cases h1; rfl
    subst ey
    obtain ⟨hit', _⟩ := hst'
    refine ⟨_, rfl, wpAny_letOwnedTupleGo_enum (s := { s with heap := h', toks := tk + 1 }) ho fun h'' he' sb => ?_⟩
    have hT2 : h''.get? s.heap.objs.size = some { cls := .type "tuple", data := .seq #[.int i tk, y] } := (sb.2 _ (Nat.ne_of_gt hel)).trans hT
    have new : ObjOk X.prog X.w (upd H s.heap.objs.size (.tup [.int (i : Nat), x])) h'' s.heap.objs.size (.tup [.int (i : Nat), x]) :=
      ⟨by show 2 ≤ sizeLine; decide, [.int i tk, y], .cons ⟨_, rfl⟩ (.cons ru .nil), ⟨_, hT2, rfl, _, rfl⟩⟩
    have I1 : Inv X pins σ (upd H s.heap.objs.size (.tup [.int (i : Nat), x])) { s with heap := h'', toks := tk + 1 } :=
      I.turnedNew (ch := [e, it]) (fun b ob hb q => (sb.2 b (fun z => hb (by simp [z]))).trans (hk b ob (fun z => hb (by simp [z])) (fun z => hb (by simp [z])) q)) hf (Nat.le_refl _) new
    refine ⟨.ref s.heap.objs.size, _, I1, rfl, ⟨_, x, rfl, I.hok.fresh (Nat.le_refl _), rfl, fun ys hy => by rw [I.tuple_inj hy hq]; exact hx⟩, ⟨⟨y, ?_⟩, hit'.at fun o q => (sb.2 it (Ne.symm hne)).trans q, hne⟩, fun b hb => ?_⟩
    · have e1 : ((i + 1 : Nat) : Int) = (i : Int) + 1 := by omega
      rw [e1]; exact he'
    · have hb' : b < s.heap.objs.size := by
        have e' : b = e ∨ b = it := by simpa using hb
        rcases e' with z | z
        · rw [z]; exact hel
        · rw [z]; exact hil
      rw [upd_ne (Nat.ne_of_lt hb')]
      exact (hf b hb).1
  done := by
    intro X hP hw hK hc i pins s σ H E I hf st hg
    subst hP hw hK
    obtain ⟨⟨old, he⟩, hit, hne⟩ := st
    obtain ⟨xs, hq, hx⟩ := hg
    obtain ⟨its, rv, p, hz⟩ := I.tuple hq
    have p : s.heap.IsTuple a its.toArray := p
    obtain ⟨f0, f1, f2, f3, f4, f5⟩ := hf it (by simp)
    have hl := rv.length
    exact HT.wpAny_pyNext_enum_endT (I.ok.hd hc) he hit p (by simp; omega) fun h' eb => ⟨rfl, I.turned (t' := s.toks) (fun b o hb q => eb b o hb q) f0 f1 f3 f4 f5⟩
  self := fun A i s Q E st h => let ⟨⟨_, he⟩, _⟩ := st; wpAny_pyIter_enum he h
/-- enumerate(e), a list or a tuple -/
def iEnumA (K : PySem.W.Frag) (ta : TA) : TI := fun σ H R => ta σ H fun vs H1 => ∃ a xs, vs = [.ref a] ∧ ((SqL K H1 a xs ∧ R (Ite K a) H1) ∨ (SqT K H1 a xs ∧ R (IteT K a) H1))
theorem pi_enumA {X : Cx} {e : Expr} {ta : TA} {p pos tpos : Pos} {elts : List Expr} {kk : Nat} (hg : Gl X "enumerate") (hm : X.mg "enumerate" = none) (ha : PA X [e] ta) (hs : starEach [e] X.env = [(false, eval e X.env)] := by rfl) :
    PI X (.Tuple elts kk tpos) (.Call (.Name "enumerate" p) [e] [] pos) (iEnumA X.K ta) := by
  refine ⟨fun pins s σ H R I h => ?_⟩
  refine Call_ (ld_blt I hg hm boot_enumerate (PyProof.Rows.callWith_type1 (thn (ha.run pos pins s σ H _ I h) fun us s1 ⟨vs, H1, I1, r1, q1⟩ => ?_) hs rfl))
  obtain ⟨a, xs, ex, q⟩ := q1
  subst ex
  cases r1 with
  | cons r rr =>
    cases rr
    cases r
    have fp : ∀ b ∈ [s1.heap.objs.size + 1, s1.heap.objs.size], FpOk X pins H1 b := fun b hb => by
      have e' : b = s1.heap.objs.size + 1 ∨ b = s1.heap.objs.size := by simpa using hb
      have hle : s1.heap.objs.size ≤ b := by
        rcases e' with z | z
        · rw [z]; exact Nat.le_add_right _ _
        · rw [z]; exact Nat.le_refl _
      exact I1.fpOk hle (I1.hok.fresh hle)
    rcases q with ⟨hq, q⟩ | ⟨hq, q⟩
    · obtain ⟨its, rv, p', hz⟩ := I1.list hq
      refine call_enumerate_list p'.isList fun h' he hit hsz hk => wpAny_pyIter_enum he ?_
      have I2 : Inv X pins σ H1 { s1 with heap := h' } := I1.kept (t' := s1.toks) hk
      exact ⟨s1.heap.objs.size + 1, [s1.heap.objs.size + 1, s1.heap.objs.size], _, _, H1, rfl, I2, turn_enum a (s1.heap.objs.size + 1) s1.heap.objs.size, ⟨⟨.none, he⟩, hit, Nat.succ_ne_self _⟩, fp, q⟩
    · obtain ⟨its, rv, p', hz⟩ := I1.tuple hq
      refine HT.call_enumerate_tuple (show s1.heap.IsTuple a its.toArray from p') fun h' he hit hsz hk => wpAny_pyIter_enum he ?_
      have I2 : Inv X pins σ H1 { s1 with heap := h' } := I1.kept (t' := s1.toks) hk
      exact ⟨s1.heap.objs.size + 1, [s1.heap.objs.size + 1, s1.heap.objs.size], _, _, H1, rfl, I2, turn_enumT a (s1.heap.objs.size + 1) s1.heap.objs.size, ⟨⟨.none, he⟩, hit, Nat.succ_ne_self _⟩, fp, q⟩
end L2
namespace DL
open PySem PySem.Spec PyProof.Rows L2
section
variable {X : Cx} {e : Expr} {we : WE} {p pos tpos : Pos} {elts : List Expr} {kk : Nat} {ws : WA}
/-- enumerate(xs), a list or a tuple -/
def wEnumA (ws : WA) : WI := fun env h Q Qx => ws env h (fun ds h1 => One (fun d => srcQ h1 d fun s => Q ⟨enumD 0 s.xs, s.gd⟩ h1) ds) Qx
theorem it_enumT {K : PySem.W.Frag} {H1 : Hp} {a : Addr} {xs : List D} {gd : DH → Prop} (at_ : ∀ H h, Pe H1 H → RW K h H → gd h → ∃ vs, SqT K H a vs ∧ RDs K H xs vs) : ItOk K H1 ⟨enumD 0 xs, gd⟩ (IteT K a) := fun i H h p rw_ g => by
  obtain ⟨vs, s, r⟩ := at_ H h p rw_ g
  refine ⟨fun x hx => ?_, fun hl => ⟨vs, s, by rw [← r.length]; simpa [enumD_len] using hl⟩⟩
  obtain ⟨y, hy, rfl⟩ := enumD_get hx
  obtain ⟨v, hv, rd⟩ := r.get hy
  refine ⟨⟨vs, v, s, hv⟩, fun v' H' z => ?_⟩
  obtain ⟨T, x, rfl, hT, rfl, z⟩ := z
  have z2 := z vs s
  rw [hv] at z2
  cases z2
  refine ⟨Pe.new hT, rw_.beside hT, .tup upd_same ?_⟩
  rw [Nat.zero_add]
  exact .cons (.int _) (.cons (rd.mono (Pe.new hT)) .nil)
theorem di_enumA (hg : Gl X "enumerate") (hm : X.mg "enumerate" = none) (ha : DA X [e] ws) (hs : starEach [e] X.env = [(false, eval e X.env)] := by rfl) : DI X (.Tuple elts kk tpos) (.Call (.Name "enumerate" p) [e] [] pos) (wEnumA ws) :=
  ⟨fun W ck => (pi_enumA hg hm (ha.ok W ck) hs).imp fun σ H R ⟨env, h, Qn, Qx, rs, rw_, q, kr, kx⟩ =>
    ⟨env, h, _, Qx, rs, rw_, q, fun ds h1 vs H1 p1 r1 rds q1 => by
      obtain ⟨d, v, rfl, rfl, rd, q1⟩ := one_inv rds q1
      cases d with
      | tup xs =>
        obtain ⟨a, vs, rfl, t, r⟩ := rd.tup_inv
        exact ⟨a, vs, rfl, .inr ⟨SqT.of t, kr _ h1 _ H1 p1 r1 (it_enumT fun H h p rw_ _ => ⟨vs, SqT.of (p.tup _ _ t), r.mono p⟩) q1⟩⟩
      | sl xs =>
        obtain ⟨a, vs, rfl, t, r⟩ := rd.sl_inv
        exact ⟨a, vs, rfl, .inl ⟨t.seq, kr _ h1 _ H1 p1 r1 (it_enum fun H h p rw_ _ => ⟨vs, (p.stL t).seq, r.mono p⟩) q1⟩⟩
      | ref a =>
        have ev : v = .ref a := rd.ref_inv
        subst ev
        unfold srcQ at q1
        dsimp only at q1
        split at q1
        · rename_i xs e1
          obtain ⟨vs, hv, r⟩ := r1 _ _ e1
          exact ⟨a, vs, rfl, .inl ⟨SqL.of hv, kr _ h1 _ H1 p1 r1 (it_enum fun H h p rw_ g => by
            obtain ⟨vs', hv', r'⟩ := rw_ _ _ g
            exact ⟨vs', SqL.of hv', r'⟩) q1⟩⟩
        · exact q1.elim
      | _ => exact q1.elim, kx⟩⟩
theorem zEEnumA {env : Ev} {h : DH} {Qx : QX} {QI : Src → DH → Prop} : wEnumA ws env h QI Qx = ws env h (fun ds h1 => One (fun d => srcQ h1 d fun s => QI ⟨enumD 0 s.xs, s.gd⟩ h1) ds) Qx := rfl
/-- sum of a list of ints -/
def gSum : GC := fun xs h Q => match xs with
  | [.ref a] => match h a with
    | some (.lst ys) => match intsOf ys with
      | some ns => Q (.int ns.sum) h
      | none => False
    | _ => False
  | _ => False
theorem c_sum (hc : X.calm = true := by rfl) : OpC X (.builtin "sum") gSum := by
  refine ⟨_, cr_sum hc, ?_⟩
  intro xs h Qn H vs Q rds rw_ q kq
  unfold gSum at q
  split at q
  · split at q
    · rename_i ys e1
      split at q
      · rename_i ns e2
        have e' := intsOf_eq e2
        subst e'
        cases rds with
        | cons rd t =>
          cases t; cases rd
          obtain ⟨vs, hv, r⟩ := rw_ _ _ e1
          have e3 := r.ints_inv
          subst e3
          exact ⟨_, ns, rfl, SqL.of hv, kq.here rw_ (.int _) q⟩
      · exact q.elim
    · exact q.elim
  · exact q.elim
theorem sum_i {p : Addr} {ns : List Int} {h : DH} {Q : QD} (e : h p = some (.lst (ns.map D.int))) (q : Q (.int ns.sum) h) : gSum [.ref p] h Q := by
  unfold gSum; dsimp only; rw [e]; dsimp only; rw [intsOf_map]; exact q
end
end DL
namespace DL
open PySem PySem.Spec PyProof.Rows L2
/-! ### comprehensions over pairs: the target two names -/
section
variable {X : Cx} {elt iter c : Expr} {ifs : List Expr} {scope : Scope} {x y z : Str} {pos py pp pz pt spos : Pos} {kk : Nat} {wi : WI} {wt : WT} {we : WE} {i j : Nat}
def lcP (p : Addr) (gd : DH → Prop) (i j : Nat) (wt : WT) (we : WE) (env : Ev) (Q : DH → Prop) : List D → DH → Prop
  | [], h => Q h
  | d :: xs, h => ∃ x y, d = .tup [x, y] ∧ wt ((env.set i (some x)).set j (some y)) h (fun b h2 => if b = true then we ((env.set i (some x)).set j (some y)) h2 (fun y h3 => lstQ h3 (.ref p) fun _ acc => acc.length < sizeLine ∧ gd (dup h3 p (.lst (acc ++ [y]))) ∧ lcP p gd i j wt we env Q xs (dup h3 p (.lst (acc ++ [y])))) (fun _ _ => False)
      else gd h2 ∧ lcP p gd i j wt we env Q xs h2) (fun _ _ => False)
def LcP (i j : Nat) (wt : WT) (we : WE) (env : Ev) (Q : QD) (s : Src) (h1 : DH) : Prop := ∀ p, h1 p = none → s.gd (dup h1 p (.lst [])) ∧ lcP p s.gd i j wt we env (fun h2 => Q (.ref p) h2) s.xs (dup h1 p (.lst []))
def wLcP (wi : WI) (i j : Nat) (wt : WT) (we : WE) : WE := fun env h Q Qx => wi env h (fun s h1 => LcP i j wt we env Q s h1) Qx
theorem wipe2 {σ : L2.St} (hij : i ≠ j) (v u : V) : ((wipe σ [i, j]).set i (some v)).set j (some u) = (σ.set i (some v)).set j (some u) := by
  show ((((σ.set j none).set i none).set i (some v)).set j (some u)) = _
  rw [List.set_set, List.set_comm _ _ (Ne.symm hij), List.set_set]
theorem wipe2' {σ : L2.St} (hij : i ≠ j) (v u : V) : wipe ((σ.set i (some v)).set j (some u)) [i, j] = wipe σ [i, j] := by
  show (((σ.set i (some v)).set j (some u)).set j none).set i none = (σ.set j none).set i none
  rw [List.set_set, List.set_comm _ _ hij, List.set_set]
theorem lcP_imp {K : PySem.W.Frag} {W : WX} {σ : L2.St} {H : Hp} {Q : VK} (hij : i ≠ j) (h : tE K W (wLcP wi i j wt we) σ H Q) :
    tLc (tI K W wi) (gTup K 2 (gCons (gName i) (gCons (gName j) gNil))) (tT K (fun _ _ _ _ => False) wt) (tE K (fun _ _ _ _ => False) we) [i, j] σ H Q := by
  obtain ⟨env, h, Qn, Qx, rs, rw_, q, kq, kx⟩ := h
  refine ⟨env, h, _, Qx, rs, rw_, q, fun s h1 J H1 p1 r1 it q1 => fun p hp => ?_, kx⟩
  obtain ⟨gd1, q2⟩ := q1 p (r1.fresh hp)
  have pn : Pe H1 (upd H1 p (.lst [])) := Pe.new hp
  refine ⟨fun k m H' => m = s.xs.length - k ∧ k ≤ s.xs.length ∧ ∃ h', Pe (upd H1 p (.lst [])) H' ∧ RW K h' H' ∧ s.gd h' ∧ lcP p s.gd i j wt we env (fun h2 => Qn (.ref p) h2) (s.xs.drop k) h',
    ⟨s.xs.length, by simp, Nat.zero_le _, _, .refl _, r1.new hp (show RO K _ p (.lst []) from ⟨[], upd_same, .nil⟩), gd1, by simpa using q2⟩, ?_⟩
  rintro k m H2 ⟨rfl, hle, h2, p2, r2, gd2, q3⟩
  have pp := pn.trans p2
  by_cases hlt : k < s.xs.length
  · have hx : s.xs[k]? = some s.xs[k] := List.getElem?_eq_getElem hlt
    obtain ⟨go, yl⟩ := (it k H2 h2 pp r2 gd2).1 _ hx
    rw [List.drop_eq_getElem_cons hlt] at q3
    obtain ⟨dx, dy, ed, q3⟩ := q3
    refine .inr ⟨go, fun H' => ∃ h', Pe (upd H1 p (.lst [])) H' ∧ RW K h' H' ∧ s.gd h' ∧ lcP p s.gd i j wt we env (fun h2 => Qn (.ref p) h2) (s.xs.drop (k + 1)) h', fun H' z => ⟨s.xs.length - (k + 1), by omega, rfl, hlt, z⟩, fun v H3 y => ?_⟩
    obtain ⟨p3, r3, rd3⟩ := yl v H3 y
    rw [ed] at rd3
    obtain ⟨a, vs, rfl, ta, ra⟩ := rd3.tup_inv
    obtain ⟨v1, v2, rfl, rd1, rd2⟩ : ∃ v1 v2, vs = [v1, v2] ∧ RD K H3 dx v1 ∧ RD K H3 dy v2 := by
      cases ra with
      | cons r1 t =>
        cases t with
        | cons r2 t => cases t; exact ⟨_, _, rfl, r1, r2⟩
    refine ⟨a, [v1, v2], rfl, SqT.of ta, rfl, v1, [v2], rfl, v2, [], rfl, rfl, ?_⟩
    have rs3 : RS K H3 ((env.set i (some dx)).set j (some dy)) (((wipe σ [i, j]).set i (some v1)).set j (some v2)) := by
      rw [wipe2 hij]; exact ((rs.mono (p1.trans (pp.trans p3))).set i rd1).set j rd2
    refine ⟨by rw [wipe2 hij, wipe2' hij], _, h2, _, _, rs3, r3, q3, fun b h4 H4 p4 r4 q4 => ?_, noX⟩
    cases b with
    | false =>
      rw [if_neg Bool.false_ne_true] at q4 ⊢
      exact ⟨h4, p2.trans (p3.trans p4), r4, q4.1, q4.2⟩
    | true =>
      rw [if_pos rfl] at q4 ⊢
      refine ⟨_, h4, _, _, rs3.mono p4, r4, q4, fun d h5 u H5 p5 r5 rd5 q5 => ?_, noX⟩
      obtain ⟨a, acc, ea, e5, hz, g5, q6⟩ := q5.get
      cases ea
      obtain ⟨vs, hv, rr⟩ := r5 _ _ e5
      have w : Wr (H5 p) := by rw [hv]; exact True.intro
      have pw : Pe H5 (upd H5 p (.lst (vs ++ [u]))) := Pe.wr w
      exact ⟨vs, hv, by rw [← rr.length]; exact hz, _, p2.trans (p3.trans (p4.trans (p5.trans pw))), r5.set w (show RO K _ p (.lst (acc ++ [d])) from ⟨_, upd_same, (rr.append (.cons rd5 .nil)).mono pw⟩), g5, q6⟩
  · have e : k = s.xs.length := by omega
    subst e
    rw [List.drop_length] at q3
    exact .inl ⟨(it _ H2 h2 pp r2 gd2).2 (Nat.le_refl _), kq (.ref p) h2 (.ref p) H2 (p1.trans pp) r2 (.ref p) q3⟩
theorem de_lcP (hN : X.N.Nodup) (hi : DI X (.Tuple [.Name x pp, .Name z pz] kk pt) iter wi) (ok : BlkOk X.N X.env.scope scope [(x, i), (z, j)]) (hij : i ≠ j)
    (hg : ∀ (s : Shared) (H : Hp) (C : Addr) (cl : List (Str × Addr)) (fp : List Addr), PG (X.blk s H scope (compEnvC scope cl C X.env) fp) (.Tuple [.Name x pp, .Name z pz] kk pt) (gTup X.K 2 (gCons (gName i) (gCons (gName j) gNil))))
    (ht : ∀ (s : Shared) (H : Hp) (C : Addr) (cl : List (Str × Addr)) (fp : List Addr), DTs (X.blk s H scope (compEnvC scope cl C X.env) fp) ifs wt)
    (he : ∀ (s : Shared) (H : Hp) (C : Addr) (cl : List (Str × Addr)) (fp : List Addr), DE (X.blk s H scope (compEnvC scope cl C X.env) fp) elt we)
    (hc : X.calm = true := by rfl) (hs : ∀ x, foldedSetIterable iter X.env x = pure x := by intro _; rfl) : DE X (.ListComp elt [⟨.Tuple [.Name x pp, .Name z pz] kk pt, iter, ifs, 0⟩] scope pos) (wLcP wi i j wt we) :=
  ⟨fun W ck => (pe_lc (own := [(x, i), (z, j)]) hc hN (hi.ok W ck) ok hg (fun s H C cl fp => (ht s H C cl fp).ok _ cok_blk) (fun s H C cl fp => (he s H C cl fp).ok _ cok_blk) hs).imp fun σ H Q h => lcP_imp hij h⟩
theorem ds_setLcP {iy : Nat} (hN : X.N.Nodup) (hi : DI X (.Tuple [.Name x pp, .Name z pz] kk pt) iter wi) (ok : BlkOk X.N X.env.scope scope [(x, i), (z, j)]) (hij : i ≠ j)
    (hg : ∀ (s : Shared) (H : Hp) (C : Addr) (cl : List (Str × Addr)) (fp : List Addr), PG (X.blk s H scope (compEnvC scope cl C X.env) fp) (.Tuple [.Name x pp, .Name z pz] kk pt) (gTup X.K 2 (gCons (gName i) (gCons (gName j) gNil))))
    (ht : ∀ (s : Shared) (H : Hp) (C : Addr) (cl : List (Str × Addr)) (fp : List Addr), DTs (X.blk s H scope (compEnvC scope cl C X.env) fp) ifs wt)
    (he : ∀ (s : Shared) (H : Hp) (C : Addr) (cl : List (Str × Addr)) (fp : List Addr), DE (X.blk s H scope (compEnvC scope cl C X.env) fp) elt we)
    (hsw : swapsWith (.ListComp elt [⟨.Tuple [.Name x pp, .Name z pz] kk pt, iter, ifs, 0⟩] scope pos) (some (.Name y py)) spos.line X.env = pure true)
    (hy : X.N[iy]? = some y := by rfl) (hyl : X.env.scope.names.lookup y = some .local := by rfl)
    (hc : X.calm = true := by rfl) (hs : ∀ x, foldedSetIterable iter X.env x = pure x := by intro _; rfl) : DS X (.Assign [.Name y py] (.ListComp elt [⟨.Tuple [.Name x pp, .Name z pz] kk pt, iter, ifs, 0⟩] scope pos) spos) (wSet iy (wLcP wi i j wt we)) :=
  ⟨fun W ck => (ps_setLc (own := [(x, i), (z, j)]) hc hN hy hyl hsw (hi.ok W ck) ok hg (fun s H C cl fp => (ht s H C cl fp).ok _ cok_blk) (fun s H C cl fp => (he s H C cl fp).ok _ cok_blk) hs).imp fun D σ H ⟨E, env, h, rs, rw_, q, ks⟩ =>
    lcP_imp hij ⟨env, h, _, _, rs, rw_, q, fun d h1 v H1 p1 r1 rd q1 => ks.nx _ h1 _ H1 p1 ((rs.mono p1).set iy rd) r1 q1, ks.kx rs⟩⟩
theorem zELcP {env : Ev} {h : DH} {Q : QD} {Qx : QX} : wLcP wi i j wt we env h Q Qx = wi env h (fun s h1 => LcP i j wt we env Q s h1) Qx := rfl
end
end DL
namespace DL
open PySem PySem.Spec PyProof.Rows L2
section
variable {i j : Nat} {wt : WT} {we : WE} {env : Ev} {gd : DH → Prop}
theorem lcP_i {p : Addr} {Q : DH → Prop} {xs : List D} (J : Nat → DH → Prop) (hn : ∀ hh, J xs.length hh → Q hh)
    (hs : ∀ (k : Nat) (d : D) (hh : DH) (N : DH → Prop), xs[k]? = some d → J k hh → (∀ h', J (k + 1) h' → N h') →
      ∃ x y, d = .tup [x, y] ∧ wt ((env.set i (some x)).set j (some y)) hh (fun b h2 => if b = true then we ((env.set i (some x)).set j (some y)) h2 (fun y h3 => lstQ h3 (.ref p) fun _ acc => acc.length < sizeLine ∧ gd (dup h3 p (.lst (acc ++ [y]))) ∧ N (dup h3 p (.lst (acc ++ [y])))) (fun _ _ => False) else gd h2 ∧ N h2) (fun _ _ => False)) :
    ∀ hh, J 0 hh → lcP p gd i j wt we env Q xs hh := by
  have go : ∀ (ys : List D) (k : Nat), ys = xs.drop k → k ≤ xs.length → ∀ h, J k h → lcP p gd i j wt we env Q ys h := by
    intro ys
    induction ys with
    | nil =>
      intro k e hk h hJ
      have : xs.length ≤ k := by simpa using e.symm
      have z : k = xs.length := by omega
      subst z
      exact hn h hJ
    | cons y ys ih =>
      intro k e hk h hJ
      have hlt : k < xs.length := by
        rcases Nat.lt_or_ge k xs.length with q | q
        · exact q
        · rw [List.drop_eq_nil_of_le q] at e; cases e
      have e1 := List.drop_eq_getElem_cons hlt
      rw [e1] at e
      obtain ⟨e2, e3⟩ := List.cons.inj e
      have hx : xs[k]? = some y := by rw [List.getElem?_eq_getElem hlt, e2]
      exact hs k y h (fun h' => lcP p gd i j wt we env Q ys h') hx hJ fun h' hJ' => ih (k + 1) e3 hlt h' hJ'
  exact fun hh hJ => go xs 0 rfl (Nat.zero_le _) hh hJ
theorem lcP_if {Q : QD} {s : Src} {h1 : DH} (b : Nat → Bool) (f : Nat → D) (hgd : ∀ h', Sub h1 h' → s.gd h') (hl : s.xs.length < sizeLine)
    (hs : ∀ (k : Nat) (d : D), s.xs[k]? = some d → ∃ x y, d = .tup [x, y] ∧ (∀ (h' : DH) (R : Bool → DH → Prop), Sub h1 h' → (∀ h'', Sub h' h'' → R (b k) h'') → wt ((env.set i (some x)).set j (some y)) h' R (fun _ _ => False)) ∧
      (b k = true → ∀ (h' : DH) (R : QD), Sub h1 h' → (∀ h'', Sub h' h'' → R (f k) h'') → we ((env.set i (some x)).set j (some y)) h' R (fun _ _ => False)))
    (q : ∀ p h', h1 p = none → Sub h1 h' → h' p = some (.lst (((List.range s.xs.length).filter b).map f)) → Q (.ref p) h') : LcP i j wt we env Q s h1 := by
  intro p fp
  refine ⟨hgd _ (Sub.new fp), lcP_i (fun j hh => Sub h1 hh ∧ hh p = some (.lst (((List.range j).filter b).map f)) ∧ j ≤ s.xs.length) ?_ ?_ _ ⟨Sub.new fp, dup_same, Nat.zero_le _⟩⟩
  · rintro hh ⟨sb, e, _⟩
    exact q p hh fp sb e
  · rintro j d hh N hx ⟨sb, e, hj⟩ hN
    have hj' : j < s.xs.length := (List.getElem?_eq_some_iff.mp hx).1
    obtain ⟨x, y, rfl, ht, hs⟩ := hs j d hx
    refine ⟨x, y, rfl, ht hh _ sb fun h2 sb2 => ?_⟩
    have en : ((List.range (j + 1)).filter b).map f = ((List.range j).filter b).map f ++ (if b j = true then [f j] else []) := by
      rw [List.range_succ, List.filter_append, List.map_append]
      congr 1
      by_cases z : b j = true
      · simp [List.filter, z]
      · simp [List.filter, z]
    split
    · rename_i z
      refine hs z h2 _ (sb.trans sb2) fun h3 sb3 => ?_
      refine lstQ_i (sb3 _ _ (sb2 _ _ e)) ⟨?_, hgd _ (sub_dup0 ((sb.trans sb2).trans sb3) fp), hN _ ⟨sub_dup0 ((sb.trans sb2).trans sb3) fp, ?_, hj'⟩⟩
      · rw [List.length_map]
        have := List.length_filter_le b (List.range j)
        rw [List.length_range] at this
        omega
      · rw [dup_same, en, if_pos z]
    · rename_i z
      exact ⟨hgd _ (sb.trans sb2), hN _ ⟨sb.trans sb2, by rw [en, if_neg z, List.append_nil]; exact sb2 _ _ e, hj'⟩⟩
theorem lcP_en {Q : QD} {xs : List D} {h1 : DH} (b : Nat → Bool) (f : Nat → D) (hgd : ∀ h', Sub h1 h' → gd h') (hl : xs.length < sizeLine)
    (ht : ∀ (k : Nat) (x : D) (h' : DH) (R : Bool → DH → Prop), xs[k]? = some x → Sub h1 h' → (∀ h'', Sub h' h'' → R (b k) h'') → wt ((env.set i (some (.int (k : Nat)))).set j (some x)) h' R (fun _ _ => False))
    (hs : ∀ (k : Nat) (x : D) (h' : DH) (R : QD), xs[k]? = some x → b k = true → Sub h1 h' → (∀ h'', Sub h' h'' → R (f k) h'') → we ((env.set i (some (.int (k : Nat)))).set j (some x)) h' R (fun _ _ => False))
    (q : ∀ p h', h1 p = none → Sub h1 h' → h' p = some (.lst (((List.range xs.length).filter b).map f)) → Q (.ref p) h') : LcP i j wt we env Q ⟨enumD 0 xs, gd⟩ h1 := by
  refine lcP_if b f hgd (by rw [enumD_len]; exact hl) (fun k d hd => ?_) (by rw [enumD_len]; exact q)
  obtain ⟨x, hx, rfl⟩ := enumD_get hd
  rw [Nat.zero_add]
  exact ⟨_, _, rfl, fun h' R sb k' => ht k x h' R hx sb k', fun z h' R sb k' => hs k x h' R hx z sb k'⟩
end
end DL
namespace DL
open PySem PySem.Spec PyProof.Rows L2
section
variable {X : Cx} {x : Str} {p pos : Pos} {e : Expr} {es : List Expr} {ws : WA} {id : String} {g : GC}
def gGcd : GC := fun xs h Q => match xs with
  | [.int i, .int j] => Q (.int ((Nat.gcd i.natAbs j.natAbs : Nat) : Int)) h
  | _ => False
theorem c_gcd : OpC X (.builtin "math.gcd") gGcd := by
  refine ⟨_, cr_gcd, ?_⟩
  intro xs h Qn H vs Q rds rw_ q kq
  unfold gGcd at q
  split at q
  · cases rds with
    | cons rd t =>
      cases t with
      | cons rd2 t => cases t; cases rd; cases rd2; exact ⟨_, _, rfl, kq.here rw_ (.int _) q⟩
  · exact q.elim
theorem de_callBf (o : OpC X (.builtin id) g) (hg : Gl X x) (hm : X.mg x = some (.builtin id)) (ha : DA X (e :: es) ws) (hdb : (x == ("__debug__" : Str)) = false := by decide)
    (he : starEach (e :: es) X.env = (false, eval e X.env) :: starEach es X.env := by rfl) (hpl : (backTo pos (starEach es X.env)).any (·.1) = false := by rfl) : DE X (.Call (.Name x p) (e :: es) [] pos) (wCB g ws) := by
  obtain ⟨r, hr, s⟩ := o
  exact ⟨fun W ck => (pe_callBfun hr hg hm (ha.ok W ck) hdb he hpl).imp fun σ H Q ⟨env, h, Qn, Qx, rs, rw_, q, kq, kx⟩ =>
    ⟨env, h, _, Qx, rs, rw_, q, fun ds h1 vs H1 p1 r1 rds q1 => s ds h1 Qn H1 vs Q rds r1 q1 (kq.mono p1), kx⟩⟩
theorem zEGcd {i j : Int} {h : DH} {Q : QD} : gGcd [.int i, .int j] h Q = Q (.int ((Nat.gcd i.natAbs j.natAbs : Nat) : Int)) h := rfl
end
end DL
namespace DL
open PySem PySem.Spec PyProof.Rows L2
/-! ### receivers of one of several classes -/
section
variable {X : Cx} {e : Expr} {w1 w2 : WE}
def wAlt (w1 w2 : WE) : WE := fun env h Q Qx => w1 env h Q Qx ∨ w2 env h Q Qx
theorem de_alt (h1 : DE X e w1) (h2 : DE X e w2) : DE X e (wAlt w1 w2) :=
  ⟨fun W ck => ⟨fun pins s σ H Q I ⟨env, h, Qn, Qx, rs, rw_, q, kq, kx⟩ => by
    rcases q with q | q
    · exact (h1.ok W ck).run pins s σ H Q I ⟨env, h, Qn, Qx, rs, rw_, q, kq, kx⟩
    · exact (h2.ok W ck).run pins s σ H Q I ⟨env, h, Qn, Qx, rs, rw_, q, kq, kx⟩⟩⟩
theorem zEAlt {env : Ev} {h : DH} {Q : QD} {Qx : QX} : wAlt w1 w2 env h Q Qx = (w1 env h Q Qx ∨ w2 env h Q Qx) := rfl
end
/-! ### methods of texts -/
abbrev GS := Str → List D → DH → QD → Prop
def MtS (X : Cx) (id : String) (g : GS) : Prop := ∃ r, MtR X id r ∧ ∀ a xs h Qn H vs Q, RDs X.K H xs vs → RW X.K h H → g a xs h Qn → KQ X.K H Qn Q → r (.str a) vs H Q
def StrK (d : D) (k : Str → Prop) : Prop := match d with
  | .str a => k a
  | _ => False
theorem StrK.get {d : D} {k : Str → Prop} (q : StrK d k) : ∃ a, d = .str a ∧ k a := by
  cases d <;> first | exact q.elim | exact ⟨_, rfl, q⟩
def wMtS (g : GS) (wo : WE) (ws : WA) : WE := fun env h Q Qx => wo env h (fun d h1 => StrK d fun a => ws env h1 (fun ds h2 => g a ds h2 Q) Qx) Qx
section
variable {X : Cx} {o e : Expr} {es : List Expr} {wo : WE} {ws : WA} {apos cpos : Pos} {name : Str} {id : String} {g : GS}
theorem de_mtS (m : MtS X id g) (slot : Slot "str" name id) (hty : typeOf (.builtin id) = pure (.type "method_descriptor")) (ho : DE X o wo) (ha : DA X (e :: es) ws) (hbase : attributeBase o name X.env (eval o X.env) = eval o X.env := by rfl)
    (hfew : ((backTo cpos (starEach (e :: es) X.env)).all (fun x => !x.1) && (backToKw cpos (keywordEach [] X.env)).all (fun x => x.1.isSome) && decide ((e :: es).length + ([] : List Keyword).length + (if ([] : List Keyword).isEmpty then 0 else 1) < 30)) = true := by rfl)
    (hline : (apos.endLine == cpos.line) = true := by rfl) (hs : starEach (e :: es) X.env = (false, eval e X.env) :: starEach es X.env := by rfl) (hpl : (backTo cpos (starEach es X.env)).any (·.1) = false := by rfl) :
    DE X (.Call (.Attribute o name apos) (e :: es) [] cpos) (wMtS g wo ws) := by
  obtain ⟨r, hr, s⟩ := m
  exact ⟨fun W ck => (pe_bm PySem.F.plainAttrs_str slot hty hr (ho.ok W ck) (ha.ok W ck) hbase hfew hline hs hpl).imp fun σ H Q ⟨env, h, Qn, Qx, rs, rw_, q, kq, kx⟩ =>
    ⟨env, h, _, Qx, rs, rw_, q, fun d h1 v H1 p1 r1 rd q0 => by
      obtain ⟨a, rfl, q1⟩ := q0.get
      cases rd
      exact ⟨rfl, env, h1, _, Qx, rs.mono p1, r1, q1, fun ds h2 us H2 p2 r2 rds q2 => s a ds h2 Qn H2 us Q rds r2 q2 (kq.mono (p1.trans p2)), kx.mono p1⟩, kx⟩⟩
end
def strsOf : List D → Option (List Str)
  | [] => some []
  | .str i :: xs => (strsOf xs).map (i :: ·)
  | _ :: _ => none
theorem strsOf_map : ∀ ns : List Str, strsOf (ns.map D.str) = some ns
  | [] => rfl
  | n :: ns => by rw [List.map_cons, strsOf, strsOf_map ns]; rfl
theorem strsOf_eq : ∀ {xs : List D} {ns : List Str}, strsOf xs = some ns → xs = ns.map D.str
  | [], ns, e => by cases e; rfl
  | .str i :: xs, ns, e => by
    rw [strsOf] at e
    cases e1 : strsOf xs with
    | none => rw [e1] at e; cases e
    | some ms => rw [e1] at e; cases e; rw [List.map_cons, strsOf_eq e1]
  | .non :: _, _, e => by cases e
  | .bl _ :: _, _, e => by cases e
  | .int _ :: _, _, e => by cases e
  | .tup _ :: _, _, e => by cases e
  | .sl _ :: _, _, e => by cases e
  | .ref _ :: _, _, e => by cases e
/-- sep.join(xs) -/
def JoinQ (h : DH) (a : Str) (x : D) (k : Str → Prop) : Prop := ∃ ys : List Str, items h x = some (ys.map D.str) ∧ (ys.map (·.length)).sum + ys.length * a.length ≤ 16777216 ∧ k (Txt.join a ys)
def gJoin : GS := fun a xs h Q => One (fun x => JoinQ h a x fun z => Q (.str z) h) xs
section
variable {X : Cx}
theorem s_join : MtS X "str.join" gJoin := by
  refine ⟨_, mt_join, ?_⟩
  intro a xs h Qn H vs Q rds rw_ q kq
  obtain ⟨d, v, rfl, rfl, rd, ys, ei, hz, q⟩ := one_inv rds q
  obtain ⟨p, us, rfl, hs, r⟩ := items_ok rd rw_ ei
  have := r.strs_inv
  subst this
  exact ⟨a, p, ys, rfl, rfl, hs, hz, kq.here rw_ (.str _) q⟩
/-- a.find(b), a.find(b, i), a.startswith(b), a.startswith(b, i) -/
def gFindS : GS := fun a xs h Q => match xs with
  | [.str b] => Q (.int (Txt.find a b)) h
  | _ => False
theorem s_find : MtS X "str.find" gFindS := by
  refine ⟨_, mt_find, ?_⟩
  intro a xs h Qn H vs Q rds rw_ q kq
  unfold gFindS at q
  split at q
  · cases rds with
    | cons rd t => cases t; cases rd; exact ⟨_, _, rfl, rfl, kq.here rw_ (.int _) q⟩
  · exact q.elim
def gFind3 : GS := fun a xs h Q => match xs with
  | [.str b, .int i] => Q (.int (Txt.find3 a b i)) h
  | _ => False
theorem s_find3 : MtS X "str.find" gFind3 := by
  refine ⟨_, mt_find3, ?_⟩
  intro a xs h Qn H vs Q rds rw_ q kq
  unfold gFind3 at q
  split at q
  · cases rds with
    | cons rd t =>
      cases t with
      | cons rd2 t => cases t; cases rd; cases rd2; exact ⟨_, _, _, rfl, rfl, kq.here rw_ (.int _) q⟩
  · exact q.elim
def gStarts : GS := fun a xs h Q => match xs with
  | [.str b] => Q (.bl (Txt.startswith a b)) h
  | _ => False
theorem s_starts : MtS X "str.startswith" gStarts := by
  refine ⟨_, mt_startswith, ?_⟩
  intro a xs h Qn H vs Q rds rw_ q kq
  unfold gStarts at q
  split at q
  · cases rds with
    | cons rd t => cases t; cases rd; exact ⟨_, _, rfl, rfl, kq.here rw_ (.bl _) q⟩
  · exact q.elim
def gStarts3 : GS := fun a xs h Q => match xs with
  | [.str b, .int i] => Q (.bl (Txt.startswith3 a b i)) h
  | _ => False
theorem s_starts3 : MtS X "str.startswith" gStarts3 := by
  refine ⟨_, mt_startswith3, ?_⟩
  intro a xs h Qn H vs Q rds rw_ q kq
  unfold gStarts3 at q
  split at q
  · cases rds with
    | cons rd t =>
      cases t with
      | cons rd2 t => cases t; cases rd; cases rd2; exact ⟨_, _, _, rfl, rfl, kq.here rw_ (.bl _) q⟩
  · exact q.elim
/-- a in b, texts -/
def gInS (neg : Bool) : G2 := fun x y h Q => match x, y with
  | .str i, .str j => Q (.bl (if neg = true then !(!(Builtin.Str.occurrences j i 0 j.length 1).isEmpty) else !(Builtin.Str.occurrences j i 0 j.length 1).isEmpty)) h
  | _, _ => False
theorem o_inS : Op2 X (compareOp .In) (gInS false) := by
  refine ⟨_, op_in_str, ?_⟩
  intro x y h Qn H vx vy Q rx ry rw_ q kq
  cases x <;> try exact q.elim
  cases y <;> try exact q.elim
  cases rx; cases ry
  exact ⟨_, _, rfl, rfl, kq.here rw_ (.bl _) q⟩
theorem o_notinS : Op2 X (compareOp .NotIn) (gInS true) := by
  refine ⟨_, op_notIn_str, ?_⟩
  intro x y h Qn H vx vy Q rx ry rw_ q kq
  cases x <;> try exact q.elim
  cases y <;> try exact q.elim
  cases rx; cases ry
  exact ⟨_, _, rfl, rfl, kq.here rw_ (.bl _) q⟩
end
section
variable {g : GS} {wo : WE} {ws : WA} {env : Ev} {h : DH} {Q : QD} {Qx : QX} {a b : Str} {i : Int} {x : D} {k : Str → Prop}
theorem zEMtS : wMtS g wo ws env h Q Qx = wo env h (fun d h1 => StrK d fun a => ws env h1 (fun ds h2 => g a ds h2 Q) Qx) Qx := rfl
theorem zStrK : StrK (.str a) k = k a := rfl
theorem zGJoin : gJoin a [x] h Q = JoinQ h a x (fun z => Q (.str z) h) := rfl
theorem zGFindS : gFindS a [.str b] h Q = Q (.int (Txt.find a b)) h := rfl
theorem zGFind3 : gFind3 a [.str b, .int i] h Q = Q (.int (Txt.find3 a b i)) h := rfl
theorem zGStarts : gStarts a [.str b] h Q = Q (.bl (Txt.startswith a b)) h := rfl
theorem zGStarts3 : gStarts3 a [.str b, .int i] h Q = Q (.bl (Txt.startswith3 a b i)) h := rfl
theorem zGInS {neg : Bool} : gInS neg (.str b) (.str a) h Q = Q (.bl (if neg = true then !(!(Builtin.Str.occurrences a b 0 a.length 1).isEmpty) else !(Builtin.Str.occurrences a b 0 a.length 1).isEmpty)) h := rfl
theorem join_i {p : Addr} {ys : List Str} (e : h p = some (.lst (ys.map D.str))) (hz : (ys.map (·.length)).sum + ys.length * a.length ≤ 16777216) (q : k (Txt.join a ys)) : JoinQ h a (.ref p) k := ⟨ys, by unfold items; dsimp only; rw [e], hz, q⟩
end
end DL
namespace My
open PySem PySem.Spec PyProof.Rows L2 DL
def top (i : Nat) : Stmt := PySem.Challenge.pw_stepdown_k48_whole_round_from_tape_to_ta.main.body.getD i (.Pass ⟨0, 0, 0, 0⟩)
abbrev s_law_draws : Stmt := top 48
abbrev s_is_whole : Stmt := top 5
abbrev s_is_number : Stmt := top 6
abbrev s_is_row : Stmt := top 12
abbrev s_Tapedd_initdd : Stmt := inClass (top 13) 0
abbrev s_law_tape_rows : Stmt := top 50
abbrev s_is_stack_row : Stmt := top 39
abbrev s_Stacksdd_initdd : Stmt := inClass (top 40) 0
abbrev s_Tape_row : Stmt := inClass (top 13) 1
abbrev s_rows_after_mark : Stmt := top 46
abbrev s_StackStairddall_rows : Stmt := inClass (top 45) 1
abbrev s_StackStairdd_initdd : Stmt := inClass (top 45) 0
abbrev s_is_counter_row : Stmt := top 26
abbrev s_Countersdd_initdd : Stmt := inClass (top 27) 0
abbrev s_Stacks_table : Stmt := inClass (top 40) 2
abbrev s_rows_of_push : Stmt := top 35
abbrev s_rows_of_pop : Stmt := top 36
abbrev s_CounterStairddall_rows : Stmt := inClass (top 34) 1
abbrev s_CounterStairdd_initdd : Stmt := inClass (top 34) 0
abbrev s_Counters_table : Stmt := inClass (top 27) 2
abbrev s_rows_at_home : Stmt := top 20
abbrev s_rows_of_inc : Stmt := top 21
abbrev s_rows_of_dec : Stmt := top 22
abbrev s_UpStairddall_rows : Stmt := inClass (top 19) 1
abbrev s_UpStairdd_initdd : Stmt := inClass (top 19) 0
abbrev s_law_trimmed : Stmt := top 51
abbrev s_law_bits : Stmt := top 52
abbrev s_value : Stmt := top 28
abbrev s_CounterStair_down : Stmt := inClass (top 34) 2
abbrev s_trimmed : Stmt := top 14
abbrev s_StackStair_down : Stmt := inClass (top 45) 2
abbrev s_UpStair_down : Stmt := inClass (top 19) 2
abbrev s_law_down : Stmt := top 53
abbrev s_stack_of : Stmt := top 29
abbrev s_CounterStair_up : Stmt := inClass (top 34) 3
abbrev s_StackStair_up : Stmt := inClass (top 45) 3
abbrev s_are_numbers : Stmt := top 7
abbrev s_Tapeddis_side : Stmt := inClass (top 13) 4
abbrev s_Tape_is_configuration : Stmt := inClass (top 13) 3
abbrev s_UpStair_up : Stmt := inClass (top 19) 3
abbrev s_law_back : Stmt := top 54
abbrev s_Tape_stopped : Stmt := inClass (top 13) 6
abbrev s_Tape_run : Stmt := inClass (top 13) 8
abbrev s_StackStair_pace : Stmt := inClass (top 45) 4
abbrev s_Stacks_row : Stmt := inClass (top 40) 1
abbrev s_CounterStair_pace : Stmt := inClass (top 34) 4
abbrev s_Counters_row : Stmt := inClass (top 27) 1
abbrev s_UpStair_pace : Stmt := inClass (top 19) 4
abbrev s_Counters_run : Stmt := inClass (top 27) 5
abbrev s_Counters_step : Stmt := inClass (top 27) 4
abbrev s_Stacks_run : Stmt := inClass (top 40) 5
abbrev s_Stacks_step : Stmt := inClass (top 40) 4
abbrev s_law_steps : Stmt := top 55
abbrev s_Tape_step : Stmt := inClass (top 13) 7
abbrev s_law : Stmt := top 56
structure Tx (K : PySem.W.Frag) (mg : Str → Option Value) where
  C_Tape : Addr
  cl_Tape : Cls K C_Tape
  mc_Tape : mg "Tape" = some (.ref C_Tape)
  na_Tape_marks : NoAttr K C_Tape "marks"
  na_Tape_states : NoAttr K C_Tape "states"
  na_Tape__rows : NoAttr K C_Tape "_rows"
  C_UpStair : Addr
  cl_UpStair : Cls K C_UpStair
  mc_UpStair : mg "UpStair" = some (.ref C_UpStair)
  na_UpStair_upper : NoAttr K C_UpStair "upper"
  na_UpStair__origin : NoAttr K C_UpStair "_origin"
  na_UpStair_lower : NoAttr K C_UpStair "lower"
  C_Counters : Addr
  cl_Counters : Cls K C_Counters
  mc_Counters : mg "Counters" = some (.ref C_Counters)
  na_Counters_count : NoAttr K C_Counters "count"
  na_Counters_states : NoAttr K C_Counters "states"
  na_Counters__rows : NoAttr K C_Counters "_rows"
  C_CounterStair : Addr
  cl_CounterStair : Cls K C_CounterStair
  mc_CounterStair : mg "CounterStair" = some (.ref C_CounterStair)
  na_CounterStair_upper : NoAttr K C_CounterStair "upper"
  na_CounterStair_lower : NoAttr K C_CounterStair "lower"
  C_Stacks : Addr
  cl_Stacks : Cls K C_Stacks
  mc_Stacks : mg "Stacks" = some (.ref C_Stacks)
  na_Stacks_states : NoAttr K C_Stacks "states"
  na_Stacks__rows : NoAttr K C_Stacks "_rows"
  C_StackStair : Addr
  cl_StackStair : Cls K C_StackStair
  mc_StackStair : mg "StackStair" = some (.ref C_StackStair)
  na_StackStair_upper : NoAttr K C_StackStair "upper"
  na_StackStair_lower : NoAttr K C_StackStair "lower"
  a_law_draws : Addr
  d_law_draws : FuncData
  F_law_draws : Fun K "_law_draws" "_law_draws" s_law_draws a_law_draws d_law_draws
  b_law_draws : Binds K d_law_draws ["script", "many"] []
  m_law_draws : mg "_law_draws" = some (.ref a_law_draws)
  a_is_whole : Addr
  d_is_whole : FuncData
  F_is_whole : Fun K "is_whole" "is_whole" s_is_whole a_is_whole d_is_whole
  b_is_whole : Binds K d_is_whole ["value"] []
  m_is_whole : mg "is_whole" = some (.ref a_is_whole)
  a_is_number : Addr
  d_is_number : FuncData
  F_is_number : Fun K "is_number" "is_number" s_is_number a_is_number d_is_number
  b_is_number : Binds K d_is_number ["value", "low", "high"] []
  m_is_number : mg "is_number" = some (.ref a_is_number)
  a_is_row : Addr
  d_is_row : FuncData
  F_is_row : Fun K "is_row" "is_row" s_is_row a_is_row d_is_row
  b_is_row : Binds K d_is_row ["value", "marks", "states"] []
  m_is_row : mg "is_row" = some (.ref a_is_row)
  a_Tapedd_initdd : Addr
  d_Tapedd_initdd : FuncData
  F_Tapedd_initdd : Fun K "__init__" "Tape.__init__" s_Tapedd_initdd a_Tapedd_initdd d_Tapedd_initdd
  b_Tapedd_initdd : Binds K d_Tapedd_initdd ["self", "marks", "states", "rows"] []
  mk_Tape : Mk K C_Tape a_Tapedd_initdd
  a_law_tape_rows : Addr
  d_law_tape_rows : FuncData
  F_law_tape_rows : Fun K "_law_tape_rows" "_law_tape_rows" s_law_tape_rows a_law_tape_rows d_law_tape_rows
  b_law_tape_rows : Binds K d_law_tape_rows ["draws", "marks", "states"] []
  m_law_tape_rows : mg "_law_tape_rows" = some (.ref a_law_tape_rows)
  a_is_stack_row : Addr
  d_is_stack_row : FuncData
  F_is_stack_row : Fun K "is_stack_row" "is_stack_row" s_is_stack_row a_is_stack_row d_is_stack_row
  b_is_stack_row : Binds K d_is_stack_row ["row", "states"] []
  m_is_stack_row : mg "is_stack_row" = some (.ref a_is_stack_row)
  a_Stacksdd_initdd : Addr
  d_Stacksdd_initdd : FuncData
  F_Stacksdd_initdd : Fun K "__init__" "Stacks.__init__" s_Stacksdd_initdd a_Stacksdd_initdd d_Stacksdd_initdd
  b_Stacksdd_initdd : Binds K d_Stacksdd_initdd ["self", "rows"] []
  mk_Stacks : Mk K C_Stacks a_Stacksdd_initdd
  a_Tape_row : Addr
  d_Tape_row : FuncData
  F_Tape_row : Fun K "row" "Tape.row" s_Tape_row a_Tape_row d_Tape_row
  b_Tape_row : Binds K d_Tape_row ["self", "state", "mark"] []
  me_Tape_row : Meth K C_Tape "row" a_Tape_row
  a_rows_after_mark : Addr
  d_rows_after_mark : FuncData
  F_rows_after_mark : Fun K "rows_after_mark" "rows_after_mark" s_rows_after_mark a_rows_after_mark d_rows_after_mark
  b_rows_after_mark : Binds K d_rows_after_mark ["row", "start"] []
  m_rows_after_mark : mg "rows_after_mark" = some (.ref a_rows_after_mark)
  a_StackStairddall_rows : Addr
  d_StackStairddall_rows : FuncData
  F_StackStairddall_rows : Fun K "_all_rows" "StackStair._all_rows" s_StackStairddall_rows a_StackStairddall_rows d_StackStairddall_rows
  b_StackStairddall_rows : Binds K d_StackStairddall_rows ["self"] []
  me_StackStairddall_rows : Meth K C_StackStair "_all_rows" a_StackStairddall_rows
  a_StackStairdd_initdd : Addr
  d_StackStairdd_initdd : FuncData
  F_StackStairdd_initdd : Fun K "__init__" "StackStair.__init__" s_StackStairdd_initdd a_StackStairdd_initdd d_StackStairdd_initdd
  b_StackStairdd_initdd : Binds K d_StackStairdd_initdd ["self", "upper"] []
  mk_StackStair : Mk K C_StackStair a_StackStairdd_initdd
  a_is_counter_row : Addr
  d_is_counter_row : FuncData
  F_is_counter_row : Fun K "is_counter_row" "is_counter_row" s_is_counter_row a_is_counter_row d_is_counter_row
  b_is_counter_row : Binds K d_is_counter_row ["row", "count", "states"] []
  m_is_counter_row : mg "is_counter_row" = some (.ref a_is_counter_row)
  a_Countersdd_initdd : Addr
  d_Countersdd_initdd : FuncData
  F_Countersdd_initdd : Fun K "__init__" "Counters.__init__" s_Countersdd_initdd a_Countersdd_initdd d_Countersdd_initdd
  b_Countersdd_initdd : Binds K d_Countersdd_initdd ["self", "count", "rows"] []
  mk_Counters : Mk K C_Counters a_Countersdd_initdd
  a_Stacks_table : Addr
  d_Stacks_table : FuncData
  F_Stacks_table : Fun K "table" "Stacks.table" s_Stacks_table a_Stacks_table d_Stacks_table
  b_Stacks_table : Binds K d_Stacks_table ["self"] []
  me_Stacks_table : Meth K C_Stacks "table" a_Stacks_table
  a_rows_of_push : Addr
  d_rows_of_push : FuncData
  F_rows_of_push : Fun K "rows_of_push" "rows_of_push" s_rows_of_push a_rows_of_push d_rows_of_push
  b_rows_of_push : Binds K d_rows_of_push ["row", "start"] []
  m_rows_of_push : mg "rows_of_push" = some (.ref a_rows_of_push)
  a_rows_of_pop : Addr
  d_rows_of_pop : FuncData
  F_rows_of_pop : Fun K "rows_of_pop" "rows_of_pop" s_rows_of_pop a_rows_of_pop d_rows_of_pop
  b_rows_of_pop : Binds K d_rows_of_pop ["row", "start"] []
  m_rows_of_pop : mg "rows_of_pop" = some (.ref a_rows_of_pop)
  a_CounterStairddall_rows : Addr
  d_CounterStairddall_rows : FuncData
  F_CounterStairddall_rows : Fun K "_all_rows" "CounterStair._all_rows" s_CounterStairddall_rows a_CounterStairddall_rows d_CounterStairddall_rows
  b_CounterStairddall_rows : Binds K d_CounterStairddall_rows ["self"] []
  me_CounterStairddall_rows : Meth K C_CounterStair "_all_rows" a_CounterStairddall_rows
  a_CounterStairdd_initdd : Addr
  d_CounterStairdd_initdd : FuncData
  F_CounterStairdd_initdd : Fun K "__init__" "CounterStair.__init__" s_CounterStairdd_initdd a_CounterStairdd_initdd d_CounterStairdd_initdd
  b_CounterStairdd_initdd : Binds K d_CounterStairdd_initdd ["self", "upper"] []
  mk_CounterStair : Mk K C_CounterStair a_CounterStairdd_initdd
  a_Counters_table : Addr
  d_Counters_table : FuncData
  F_Counters_table : Fun K "table" "Counters.table" s_Counters_table a_Counters_table d_Counters_table
  b_Counters_table : Binds K d_Counters_table ["self"] []
  me_Counters_table : Meth K C_Counters "table" a_Counters_table
  a_rows_at_home : Addr
  d_rows_at_home : FuncData
  F_rows_at_home : Fun K "rows_at_home" "rows_at_home" s_rows_at_home a_rows_at_home d_rows_at_home
  b_rows_at_home : Binds K d_rows_at_home ["row", "home", "origin"] []
  m_rows_at_home : mg "rows_at_home" = some (.ref a_rows_at_home)
  a_rows_of_inc : Addr
  d_rows_of_inc : FuncData
  F_rows_of_inc : Fun K "rows_of_inc" "rows_of_inc" s_rows_of_inc a_rows_of_inc d_rows_of_inc
  b_rows_of_inc : Binds K d_rows_of_inc ["row", "home", "origin"] []
  m_rows_of_inc : mg "rows_of_inc" = some (.ref a_rows_of_inc)
  a_rows_of_dec : Addr
  d_rows_of_dec : FuncData
  F_rows_of_dec : Fun K "rows_of_dec" "rows_of_dec" s_rows_of_dec a_rows_of_dec d_rows_of_dec
  b_rows_of_dec : Binds K d_rows_of_dec ["row", "home", "origin"] []
  m_rows_of_dec : mg "rows_of_dec" = some (.ref a_rows_of_dec)
  a_UpStairddall_rows : Addr
  d_UpStairddall_rows : FuncData
  F_UpStairddall_rows : Fun K "_all_rows" "UpStair._all_rows" s_UpStairddall_rows a_UpStairddall_rows d_UpStairddall_rows
  b_UpStairddall_rows : Binds K d_UpStairddall_rows ["self"] []
  me_UpStairddall_rows : Meth K C_UpStair "_all_rows" a_UpStairddall_rows
  a_UpStairdd_initdd : Addr
  d_UpStairdd_initdd : FuncData
  F_UpStairdd_initdd : Fun K "__init__" "UpStair.__init__" s_UpStairdd_initdd a_UpStairdd_initdd d_UpStairdd_initdd
  b_UpStairdd_initdd : Binds K d_UpStairdd_initdd ["self", "upper"] []
  mk_UpStair : Mk K C_UpStair a_UpStairdd_initdd
  a_law_trimmed : Addr
  d_law_trimmed : FuncData
  F_law_trimmed : Fun K "_law_trimmed" "_law_trimmed" s_law_trimmed a_law_trimmed d_law_trimmed
  b_law_trimmed : Binds K d_law_trimmed ["bits"] []
  m_law_trimmed : mg "_law_trimmed" = some (.ref a_law_trimmed)
  a_law_bits : Addr
  d_law_bits : FuncData
  F_law_bits : Fun K "_law_bits" "_law_bits" s_law_bits a_law_bits d_law_bits
  b_law_bits : Binds K d_law_bits ["draw", "most"] []
  m_law_bits : mg "_law_bits" = some (.ref a_law_bits)
  a_value : Addr
  d_value : FuncData
  F_value : Fun K "value" "value" s_value a_value d_value
  b_value : Binds K d_value ["stack"] []
  m_value : mg "value" = some (.ref a_value)
  a_CounterStair_down : Addr
  d_CounterStair_down : FuncData
  F_CounterStair_down : Fun K "down" "CounterStair.down" s_CounterStair_down a_CounterStair_down d_CounterStair_down
  b_CounterStair_down : Binds K d_CounterStair_down ["self", "configuration"] []
  me_CounterStair_down : Meth K C_CounterStair "down" a_CounterStair_down
  a_trimmed : Addr
  d_trimmed : FuncData
  F_trimmed : Fun K "trimmed" "trimmed" s_trimmed a_trimmed d_trimmed
  b_trimmed : Binds K d_trimmed ["marks"] []
  m_trimmed : mg "trimmed" = some (.ref a_trimmed)
  a_StackStair_down : Addr
  d_StackStair_down : FuncData
  F_StackStair_down : Fun K "down" "StackStair.down" s_StackStair_down a_StackStair_down d_StackStair_down
  b_StackStair_down : Binds K d_StackStair_down ["self", "configuration"] []
  me_StackStair_down : Meth K C_StackStair "down" a_StackStair_down
  a_UpStair_down : Addr
  d_UpStair_down : FuncData
  F_UpStair_down : Fun K "down" "UpStair.down" s_UpStair_down a_UpStair_down d_UpStair_down
  b_UpStair_down : Binds K d_UpStair_down ["self", "configuration"] []
  me_UpStair_down : Meth K C_UpStair "down" a_UpStair_down
  a_law_down : Addr
  d_law_down : FuncData
  F_law_down : Fun K "_law_down" "_law_down" s_law_down a_law_down d_law_down
  b_law_down : Binds K d_law_down ["stairs", "here"] []
  m_law_down : mg "_law_down" = some (.ref a_law_down)
  a_stack_of : Addr
  d_stack_of : FuncData
  F_stack_of : Fun K "stack_of" "stack_of" s_stack_of a_stack_of d_stack_of
  b_stack_of : Binds K d_stack_of ["number"] []
  m_stack_of : mg "stack_of" = some (.ref a_stack_of)
  a_CounterStair_up : Addr
  d_CounterStair_up : FuncData
  F_CounterStair_up : Fun K "up" "CounterStair.up" s_CounterStair_up a_CounterStair_up d_CounterStair_up
  b_CounterStair_up : Binds K d_CounterStair_up ["self", "configuration"] []
  me_CounterStair_up : Meth K C_CounterStair "up" a_CounterStair_up
  a_StackStair_up : Addr
  d_StackStair_up : FuncData
  F_StackStair_up : Fun K "up" "StackStair.up" s_StackStair_up a_StackStair_up d_StackStair_up
  b_StackStair_up : Binds K d_StackStair_up ["self", "configuration"] []
  me_StackStair_up : Meth K C_StackStair "up" a_StackStair_up
  a_are_numbers : Addr
  d_are_numbers : FuncData
  F_are_numbers : Fun K "are_numbers" "are_numbers" s_are_numbers a_are_numbers d_are_numbers
  b_are_numbers : Binds K d_are_numbers ["value", "low", "high"] []
  m_are_numbers : mg "are_numbers" = some (.ref a_are_numbers)
  a_Tapeddis_side : Addr
  d_Tapeddis_side : FuncData
  F_Tapeddis_side : Fun K "_is_side" "Tape._is_side" s_Tapeddis_side a_Tapeddis_side d_Tapeddis_side
  b_Tapeddis_side : Binds K d_Tapeddis_side ["self", "value"] []
  me_Tapeddis_side : Meth K C_Tape "_is_side" a_Tapeddis_side
  a_Tape_is_configuration : Addr
  d_Tape_is_configuration : FuncData
  F_Tape_is_configuration : Fun K "is_configuration" "Tape.is_configuration" s_Tape_is_configuration a_Tape_is_configuration d_Tape_is_configuration
  b_Tape_is_configuration : Binds K d_Tape_is_configuration ["self", "value"] []
  me_Tape_is_configuration : Meth K C_Tape "is_configuration" a_Tape_is_configuration
  a_UpStair_up : Addr
  d_UpStair_up : FuncData
  F_UpStair_up : Fun K "up" "UpStair.up" s_UpStair_up a_UpStair_up d_UpStair_up
  b_UpStair_up : Binds K d_UpStair_up ["self", "configuration"] []
  me_UpStair_up : Meth K C_UpStair "up" a_UpStair_up
  a_law_back : Addr
  d_law_back : FuncData
  F_law_back : Fun K "_law_back" "_law_back" s_law_back a_law_back d_law_back
  b_law_back : Binds K d_law_back ["stairs", "low"] []
  m_law_back : mg "_law_back" = some (.ref a_law_back)
  a_Tape_stopped : Addr
  d_Tape_stopped : FuncData
  F_Tape_stopped : Fun K "stopped" "Tape.stopped" s_Tape_stopped a_Tape_stopped d_Tape_stopped
  b_Tape_stopped : Binds K d_Tape_stopped ["self", "configuration"] []
  me_Tape_stopped : Meth K C_Tape "stopped" a_Tape_stopped
  a_Tape_run : Addr
  d_Tape_run : FuncData
  F_Tape_run : Fun K "run" "Tape.run" s_Tape_run a_Tape_run d_Tape_run
  b_Tape_run : Binds K d_Tape_run ["self", "configuration", "steps"] []
  me_Tape_run : Meth K C_Tape "run" a_Tape_run
  a_StackStair_pace : Addr
  d_StackStair_pace : FuncData
  F_StackStair_pace : Fun K "pace" "StackStair.pace" s_StackStair_pace a_StackStair_pace d_StackStair_pace
  b_StackStair_pace : Binds K d_StackStair_pace ["self", "configuration"] []
  me_StackStair_pace : Meth K C_StackStair "pace" a_StackStair_pace
  a_Stacks_row : Addr
  d_Stacks_row : FuncData
  F_Stacks_row : Fun K "row" "Stacks.row" s_Stacks_row a_Stacks_row d_Stacks_row
  b_Stacks_row : Binds K d_Stacks_row ["self", "state"] []
  me_Stacks_row : Meth K C_Stacks "row" a_Stacks_row
  a_CounterStair_pace : Addr
  d_CounterStair_pace : FuncData
  F_CounterStair_pace : Fun K "pace" "CounterStair.pace" s_CounterStair_pace a_CounterStair_pace d_CounterStair_pace
  b_CounterStair_pace : Binds K d_CounterStair_pace ["self", "configuration"] []
  me_CounterStair_pace : Meth K C_CounterStair "pace" a_CounterStair_pace
  a_Counters_row : Addr
  d_Counters_row : FuncData
  F_Counters_row : Fun K "row" "Counters.row" s_Counters_row a_Counters_row d_Counters_row
  b_Counters_row : Binds K d_Counters_row ["self", "state"] []
  me_Counters_row : Meth K C_Counters "row" a_Counters_row
  a_UpStair_pace : Addr
  d_UpStair_pace : FuncData
  F_UpStair_pace : Fun K "pace" "UpStair.pace" s_UpStair_pace a_UpStair_pace d_UpStair_pace
  b_UpStair_pace : Binds K d_UpStair_pace ["self", "configuration"] []
  me_UpStair_pace : Meth K C_UpStair "pace" a_UpStair_pace
  a_Counters_run : Addr
  d_Counters_run : FuncData
  F_Counters_run : Fun K "run" "Counters.run" s_Counters_run a_Counters_run d_Counters_run
  b_Counters_run : Binds K d_Counters_run ["self", "configuration", "steps"] []
  me_Counters_run : Meth K C_Counters "run" a_Counters_run
  a_Counters_step : Addr
  d_Counters_step : FuncData
  F_Counters_step : Fun K "step" "Counters.step" s_Counters_step a_Counters_step d_Counters_step
  b_Counters_step : Binds K d_Counters_step ["self", "configuration"] []
  me_Counters_step : Meth K C_Counters "step" a_Counters_step
  a_Stacks_run : Addr
  d_Stacks_run : FuncData
  F_Stacks_run : Fun K "run" "Stacks.run" s_Stacks_run a_Stacks_run d_Stacks_run
  b_Stacks_run : Binds K d_Stacks_run ["self", "configuration", "steps"] []
  me_Stacks_run : Meth K C_Stacks "run" a_Stacks_run
  a_Stacks_step : Addr
  d_Stacks_step : FuncData
  F_Stacks_step : Fun K "step" "Stacks.step" s_Stacks_step a_Stacks_step d_Stacks_step
  b_Stacks_step : Binds K d_Stacks_step ["self", "configuration"] []
  me_Stacks_step : Meth K C_Stacks "step" a_Stacks_step
  a_law_steps : Addr
  d_law_steps : FuncData
  F_law_steps : Fun K "_law_steps" "_law_steps" s_law_steps a_law_steps d_law_steps
  b_law_steps : Binds K d_law_steps ["stairs", "here"] []
  m_law_steps : mg "_law_steps" = some (.ref a_law_steps)
  a_Tape_step : Addr
  d_Tape_step : FuncData
  F_Tape_step : Fun K "step" "Tape.step" s_Tape_step a_Tape_step d_Tape_step
  b_Tape_step : Binds K d_Tape_step ["self", "configuration"] []
  me_Tape_step : Meth K C_Tape "step" a_Tape_step
  a_law : Addr
  d_law : FuncData
  F_law : Fun K "law" "law" s_law a_law d_law
  b_law : Binds K d_law ["script"] []
  m_law : mg "law" = some (.ref a_law)
  k_COUNTERS : ∃ t, mg "COUNTERS" = some (.int 3 t)
  k_FEWEST_MARKS : ∃ t, mg "FEWEST_MARKS" = some (.int 2 t)
  k_MARKS : ∃ t, mg "MARKS" = some (.int 2 t)
  k_MOST_COUNTERS : ∃ t, mg "MOST_COUNTERS" = some (.int 4 t)
  k_MOST_MARKS : ∃ t, mg "MOST_MARKS" = some (.int 16 t)
  k_MOST_STATES_counters : ∃ t, mg "MOST_STATES_counters" = some (.int 40000 t)
  k_MOST_STATES_stacks : ∃ t, mg "MOST_STATES_stacks" = some (.int 5000 t)
  k_MOST_STATES_tape : ∃ t, mg "MOST_STATES_tape" = some (.int 4000 t)
  k_MOST_UPPER_COUNTERS : ∃ t, mg "MOST_UPPER_COUNTERS" = some (.int 3 t)
  k_MOST_UPPER_STATES_stackstair : ∃ t, mg "MOST_UPPER_STATES_stackstair" = some (.int 500 t)
  k_MOST_UPPER_STATES_upstair : ∃ t, mg "MOST_UPPER_STATES_upstair" = some (.int 1000 t)
  k_SPARE : ∃ t, mg "SPARE" = some (.int 2 t)
  k_STATES_FOR_EACH_counterstair : ∃ t, mg "STATES_FOR_EACH_counterstair" = some (.int 7 t)
  k_STATES_FOR_EACH_stackstair : ∃ t, mg "STATES_FOR_EACH_stackstair" = some (.int 9 t)
  k_STATES_FOR_EACH_upstair : ∃ t, mg "STATES_FOR_EACH_upstair" = some (.int 4 t)
  X_BadMachine : Addr
  xg_BadMachine : mg "BadMachine" = some (.ref X_BadMachine)
  xq_BadMachine : PySem.W.excIn K X_BadMachine [.type "ValueError", .type "Exception", .type "BaseException", .type "object"] "ValueError.__new__" = true
  xk_BadMachine : PySem.W.keepIn K (.ref X_BadMachine) = true
  xb_BadMachine : PySem.W.subIn K (.ref X_BadMachine) (.type "BaseException") = some true
  xt_BadMachine : PySem.W.typeIn K (.ref X_BadMachine) = some (.type "type")
  n_abs : mg "abs" = none
  n_all : mg "all" = none
  n_bool : mg "bool" = none
  n_enumerate : mg "enumerate" = none
  n_int : mg "int" = none
  n_isinstance : mg "isinstance" = none
  n_len : mg "len" = none
  n_list : mg "list" = none
  n_max : mg "max" = none
  n_range : mg "range" = none
  n_sum : mg "sum" = none
  n_tuple : mg "tuple" = none
section
variable {P : Program} {w : World} {K : PySem.W.Frag} {mg : Str → Option Value} {base : Heap}
abbrev N_law_draws : List Str := ["script", "many", "draws", "at", "cell", "number", "k"]
theorem sc_law_draws : FnScope ["script", "many", "draws", "at", "cell", "number", "k"] ["script", "many"] (defScope s_law_draws) := ⟨rfl, rfl, rfl, by decide +kernel, rfl, by decide +kernel, by decide +kernel⟩
def W_law_draws (T : Tx K mg) : WF := wDef 2 7 ((wSeq (wSet 2 (wLst wNil))
    (wSeq (wSet 3 (wC (.int 0)))
    (wSeq (wFor (wItems (wSl (wVar 0) wNoP (wPart (wC (.int 63))))) (gN 4) (wSeq (wSet 5 (wCB gAbs (wCons (wVar 4) wNil)))
    (wSeq (wIfS (wB (wOp2 gGe (wVar 5) (wOp2 gPow (wC (.int 10)) (wC (.int 18))))) (wFor (wRng1 (wCons (wC (.int 24)) wNil)) (gN 6) (wIfS (wB (wOp2 gGt (wVar 5) (wC (.int 0)))) (wSeq (wExpr (wAppend (wVar 2) (wCons (wOp2 gMod (wCB gIntC (wCons (wVar 5) wNil)) (wC (.int 1009))) wNil)))
    (wSet 5 (wOp2 gFdiv (wVar 5) (wC (.int 1009))))) wNext)) (wSeq (wExpr (wAppend (wVar 2) (wCons (wOp2 gMod (wCB gIntC (wCons (wOp2 gAdd (wOp2 gAdd (wOp2 gTimes (wVar 5) (wC (.int 48271))) (wOp2 gTimes (wVar 3) (wC (.int 69621)))) (wC (.int 11))) wNil)) (wC (.int 65537))) wNil)))
    (wExpr (wAppend (wVar 2) (wCons (wOp2 gMod (wCB gIntC (wCons (wOp2 gAdd (wOp2 gAdd (wOp2 gAdd (wOp2 gTimes (wVar 5) (wC (.int 16807))) (wOp2 gTimes (wVar 3) (wC (.int 40692)))) (wC (.int 7))) (wOp2 gTimes (wVar 5) (wVar 5))) wNil)) (wC (.int 65521))) wNil)))))
    (wSet 3 (wOp2 gAdd (wVar 3) (wC (.int 1)))))))
    (wSeq (wFor (wRng1 (wCons (wVar 1) wNil)) (gN 6) (wIfS (wB (wOp2 gLt (wCB gLen (wCons (wVar 2) wNil)) (wVar 1))) (wExpr (wAppend (wVar 2) (wCons (wOp2 gMod (wCB gIntC (wCons (wOp2 gAdd (wOp2 gAdd (wOp2 gTimes (wCB gLen (wCons (wVar 2) wNil)) (wC (.int 69621))) (wOp2 gTimes (wC (.int 977)) (wVar 3))) (wOp2 gTimes (wOp2 gTimes (wVar 6) (wVar 6)) (wC (.int 31)))) wNil)) (wC (.int 65521))) wNil))) wNext))
    (wRet (wSl (wVar 2) wNoP (wPart (wVar 1)))))))))
theorem ok_law_draws (T : Tx K mg) : FnD P w K mg base 1 T.a_law_draws T.d_law_draws ["script", "many"] (W_law_draws T) := fnD_of T.F_law_draws sc_law_draws (fun cdv A outer s H E hr => (dss_cons (ds_set (i := 2) sc_law_draws.nd (de_lst da_nil))
    (dss_cons (ds_set (i := 3) sc_law_draws.nd de_int)
    (dss_cons (ds_for (di_items (de_sl (dv 0) do_none (do_some de_int))) (dg_name (i := 4) sc_law_draws.nd) (dss_cons (ds_set (i := 5) sc_law_draws.nd (de_callB c_abs (by rfl) T.n_abs (by decide +kernel) (da_cons (dv 4) da_nil)))
    (dss_cons (ds_if (dt_cmp o_ge (dv 5) (de_bin o_pow de_int de_int)) (dss_one (ds_for (di_rng1 (by rfl) T.n_range (da_cons de_int da_nil)) (dg_name (i := 6) sc_law_draws.nd) (dss_one (ds_if (dt_cmp o_gt (dv 5) de_int) (dss_cons (ds_expr (de_append (dv 2) (da_cons (de_bin o_mod (de_callTy c_int (by rfl) T.n_int (by decide +kernel) (da_cons (dv 5) da_nil)) de_int) da_nil)))
    (dss_one (ds_set (i := 5) sc_law_draws.nd (de_bin o_div (dv 5) de_int)))) dss_nil)))) (dss_cons (ds_expr (de_append (dv 2) (da_cons (de_bin o_mod (de_callTy c_int (by rfl) T.n_int (by decide +kernel) (da_cons (de_bin o_add (de_bin o_add (de_bin o_times (dv 5) de_int) (de_bin o_times (dv 3) de_int)) de_int) da_nil)) de_int) da_nil)))
    (dss_one (ds_expr (de_append (dv 2) (da_cons (de_bin o_mod (de_callTy c_int (by rfl) T.n_int (by decide +kernel) (da_cons (de_bin o_add (de_bin o_add (de_bin o_add (de_bin o_times (dv 5) de_int) (de_bin o_times (dv 3) de_int)) de_int) (de_bin o_times (dv 5) (dv 5))) da_nil)) de_int) da_nil))))))
    (dss_one (ds_set (i := 3) sc_law_draws.nd (de_bin o_add (dv 3) de_int))))))
    (dss_cons (ds_for (di_rng1 (by rfl) T.n_range (da_cons (dv 1) da_nil)) (dg_name (i := 6) sc_law_draws.nd) (dss_one (ds_if (dt_cmp o_lt (de_callB c_len (by rfl) T.n_len PySem.boot_len (da_cons (dv 2) da_nil)) (dv 1)) (dss_one (ds_expr (de_append (dv 2) (da_cons (de_bin o_mod (de_callTy c_int (by rfl) T.n_int (by decide +kernel) (da_cons (de_bin o_add (de_bin o_add (de_bin o_times (de_callB c_len (by rfl) T.n_len PySem.boot_len (da_cons (dv 2) da_nil)) de_int) (de_bin o_times de_int (dv 3))) (de_bin o_times (de_bin o_times (dv 6) (dv 6)) de_int)) da_nil)) de_int) da_nil)))) dss_nil)))
    (dss_one (ds_ret (de_sl (dv 2) do_none (do_some (dv 1))))))))))
abbrev N_is_whole : List Str := ["value"]
theorem sc_is_whole : FnScope ["value"] ["value"] (defScope s_is_whole) := ⟨rfl, rfl, rfl, by decide +kernel, rfl, by decide +kernel, by decide +kernel⟩
def W_is_whole (T : Tx K mg) : WF := wDef 1 1 ((wRet (wAndV (wIsi (wVar 0) "int") (wNotV (wIsi (wVar 0) "bool")))))
theorem ok_is_whole (T : Tx K mg) : FnD P w K mg base 1 T.a_is_whole T.d_is_whole ["value"] (W_is_whole T) := fnD_of T.F_is_whole sc_is_whole (fun cdv A outer s H E hr => (dss_one (ds_ret (de_and (de_isi (by rfl) T.n_isinstance (by rfl) T.n_int (by decide +kernel) (dv 0)) (de_one (de_not (de_isi (by rfl) T.n_isinstance (by rfl) T.n_bool (by decide +kernel) (dv 0))))))))
abbrev N_is_number : List Str := ["value", "low", "high"]
theorem sc_is_number : FnScope ["value", "low", "high"] ["value", "low", "high"] (defScope s_is_number) := ⟨rfl, rfl, rfl, by decide +kernel, rfl, by decide +kernel, by decide +kernel⟩
def W_is_number (T : Tx K mg) : WF := wDef 3 3 ((wRet (wAndV (wCall (W_is_whole T) (wCons (wVar 0) wNil)) (wChain gLe gLe (wVar 1) (wVar 0) (wVar 2)))))
theorem ok_is_number (T : Tx K mg) : FnD P w K mg base 2 T.a_is_number T.d_is_number ["value", "low", "high"] (W_is_number T) := fnD_of T.F_is_number sc_is_number (fun cdv A outer s H E hr => (dss_one (ds_ret (de_and (de_call (ok_is_whole T) wDef_ar (hr.mono (by decide)) rfl T.m_is_whole T.F_is_whole.kp T.b_is_whole (da_cons (dv 0) da_nil)) (de_one (de_chain o_le o_le (dv 1) (dv 0) (dv 2)))))))
abbrev N_is_row : List Str := ["value", "marks", "states", "mark", "move", "state"]
theorem sc_is_row : FnScope ["value", "marks", "states", "mark", "move", "state"] ["value", "marks", "states"] (defScope s_is_row) := ⟨rfl, rfl, rfl, by decide +kernel, rfl, by decide +kernel, by decide +kernel⟩
def W_is_row (T : Tx K mg) : WF := wDef 3 6 ((wSeq (wIfS (wOr (wNot (wB (wIsi (wVar 0) "tuple"))) (wB (wOp2 (gEq true) (wCB gLen (wCons (wVar 0) wNil)) (wC (.int 3))))) (wRet (wC (.bl false))) wNext)
    (wSeq (wAsg (wVar 0) (gT 3 (gCn (gN 3) (gCn (gN 4) (gCn (gN 5) gNl)))))
    (wSeq (wIfS (wOr (wNot (wTru (wCall (W_is_number T) (wCons (wVar 4) (wCons (wNeg (wC (.int 1))) (wCons (wC (.int 1)) wNil)))))) (wB (wOp2 (gEq false) (wVar 4) (wC (.int 0))))) (wRet (wC (.bl false))) wNext)
    (wRet (wAndV (wCall (W_is_number T) (wCons (wVar 3) (wCons (wC (.int 0)) (wCons (wOp2 gMinus (wVar 1) (wC (.int 1))) wNil)))) (wCall (W_is_number T) (wCons (wVar 5) (wCons (wC (.int 0)) (wCons (wOp2 gMinus (wVar 2) (wC (.int 1))) wNil))))))))))
theorem ok_is_row (T : Tx K mg) : FnD P w K mg base 3 T.a_is_row T.d_is_row ["value", "marks", "states"] (W_is_row T) := fnD_of T.F_is_row sc_is_row (fun cdv A outer s H E hr => (dss_cons (ds_if (dt_w (dw_or (dt_not (dt_val (de_isi (by rfl) T.n_isinstance (by rfl) T.n_tuple (by decide +kernel) (dv 0)))) (dw_or1 (dt_cmp (o_ne hr.units) (de_callB c_len (by rfl) T.n_len PySem.boot_len (da_cons (dv 0) da_nil)) de_int)))) (dss_one (ds_ret de_bl)) dss_nil)
    (dss_cons (ds_asg (dv 0) (dg_tup (dgs_cons (dg_name (i := 3) sc_is_row.nd) (dgs_cons (dg_name (i := 4) sc_is_row.nd) (dgs_cons (dg_name (i := 5) sc_is_row.nd) dgs_nil)))))
    (dss_cons (ds_if (dt_w (dw_or (dt_not (dt_truth (de_call (ok_is_number T) wDef_ar (hr.mono (by decide)) rfl T.m_is_number T.F_is_number.kp T.b_is_number (da_cons (dv 4) (da_cons (de_neg de_int) (da_cons de_int da_nil)))))) (dw_or1 (dt_cmp (o_eq hr.units) (dv 4) de_int)))) (dss_one (ds_ret de_bl)) dss_nil)
    (dss_one (ds_ret (de_and (de_call (ok_is_number T) wDef_ar (hr.mono (by decide)) rfl T.m_is_number T.F_is_number.kp T.b_is_number (da_cons (dv 3) (da_cons de_int (da_cons (de_bin o_sub (dv 1) de_int) da_nil)))) (de_one (de_call (ok_is_number T) wDef_ar (hr.mono (by decide)) rfl T.m_is_number T.F_is_number.kp T.b_is_number (da_cons (dv 5) (da_cons de_int (da_cons (de_bin o_sub (dv 2) de_int) da_nil))))))))))))
abbrev N_Tapedd_initdd : List Str := ["self", "marks", "states", "rows", "row"]
theorem sc_Tapedd_initdd : FnScope ["self", "marks", "states", "rows", "row"] ["self", "marks", "states", "rows"] (defScope s_Tapedd_initdd) := ⟨rfl, rfl, rfl, by decide +kernel, rfl, by decide +kernel, by decide +kernel⟩
def W_Tapedd_initdd (T : Tx K mg) : WF := wDef 4 5 ((wSeq (wIfS (wNot (wTru (wCall (W_is_number T) (wCons (wVar 1) (wCons (wC (.int 2)) (wCons (wC (.int 16)) wNil)))))) (wRaise T.X_BadMachine) wNext)
    (wSeq (wIfS (wNot (wTru (wCall (W_is_number T) (wCons (wVar 2) (wCons (wC (.int 1)) (wCons (wC (.int 4000)) wNil)))))) (wRaise T.X_BadMachine) wNext)
    (wSeq (wIfS (wOr (wNot (wB (wIsi (wVar 3) "list"))) (wB (wOp2 (gEq true) (wCB gLen (wCons (wVar 3) wNil)) (wOp2 gTimes (wVar 1) (wVar 2))))) (wRaise T.X_BadMachine) wNext)
    (wSeq (wFor (wItems (wVar 3)) (gN 4) (wIfS (wAnd (wB (wOp2 (gIs true) (wVar 4) (wC .non))) (wNot (wTru (wCall (W_is_row T) (wCons (wVar 4) (wCons (wVar 1) (wCons (wVar 2) wNil))))))) (wRaise T.X_BadMachine) wNext))
    (wSeq (wFldS [T.C_Tape] (wVar 0) (wVar 1) "marks")
    (wSeq (wFldS [T.C_Tape] (wVar 0) (wVar 2) "states")
    (wFldS [T.C_Tape] (wVar 0) (wCB gListC (wCons (wVar 3) wNil)) "_rows"))))))))
theorem ok_Tapedd_initdd (T : Tx K mg) : FnD P w K mg base 4 T.a_Tapedd_initdd T.d_Tapedd_initdd ["self", "marks", "states", "rows"] (W_Tapedd_initdd T) := fnD_of T.F_Tapedd_initdd sc_Tapedd_initdd (fun cdv A outer s H E hr => (dss_cons (ds_if (dt_not (dt_truth (de_call (ok_is_number T) wDef_ar (hr.mono (by decide)) rfl T.m_is_number T.F_is_number.kp T.b_is_number (da_cons (dv 1) (da_cons (de_gint T.k_FEWEST_MARKS) (da_cons (de_gint T.k_MOST_MARKS) da_nil)))))) (dss_one (ds_raise PySem.F.excBase_ValueError T.xq_BadMachine T.xg_BadMachine T.xk_BadMachine (raises_own T.xb_BadMachine T.xt_BadMachine) rfl)) dss_nil)
    (dss_cons (ds_if (dt_not (dt_truth (de_call (ok_is_number T) wDef_ar (hr.mono (by decide)) rfl T.m_is_number T.F_is_number.kp T.b_is_number (da_cons (dv 2) (da_cons de_int (da_cons (de_gint T.k_MOST_STATES_tape) da_nil)))))) (dss_one (ds_raise PySem.F.excBase_ValueError T.xq_BadMachine T.xg_BadMachine T.xk_BadMachine (raises_own T.xb_BadMachine T.xt_BadMachine) rfl)) dss_nil)
    (dss_cons (ds_if (dt_w (dw_or (dt_not (dt_val (de_isi (by rfl) T.n_isinstance (by rfl) T.n_list (by decide +kernel) (dv 3)))) (dw_or1 (dt_cmp (o_ne hr.units) (de_callB c_len (by rfl) T.n_len PySem.boot_len (da_cons (dv 3) da_nil)) (de_bin o_times (dv 1) (dv 2)))))) (dss_one (ds_raise PySem.F.excBase_ValueError T.xq_BadMachine T.xg_BadMachine T.xk_BadMachine (raises_own T.xb_BadMachine T.xt_BadMachine) rfl)) dss_nil)
    (dss_cons (ds_for (di_items (dv 3)) (dg_name (i := 4) sc_Tapedd_initdd.nd) (dss_one (ds_if (dt_w (dw_and (dt_cmp o_isnot (dv 4) de_non) (dw_and1 (dt_not (dt_truth (de_call (ok_is_row T) wDef_ar (hr.mono (by decide)) rfl T.m_is_row T.F_is_row.kp T.b_is_row (da_cons (dv 4) (da_cons (dv 1) (da_cons (dv 2) da_nil))))))))) (dss_one (ds_raise PySem.F.excBase_ValueError T.xq_BadMachine T.xg_BadMachine T.xk_BadMachine (raises_own T.xb_BadMachine T.xt_BadMachine) rfl)) dss_nil)))
    (dss_cons (ds_fld (dv 0) (dv 1) (ClsD.one T.cl_Tape T.na_Tape_marks))
    (dss_cons (ds_fld (dv 0) (dv 2) (ClsD.one T.cl_Tape T.na_Tape_states))
    (dss_one (ds_fld (dv 0) (de_callTy c_list (by rfl) T.n_list (by decide +kernel) (da_cons (dv 3) da_nil)) (ClsD.one T.cl_Tape T.na_Tape__rows))))))))))
abbrev N_law_tape_rows : List Str := ["draws", "marks", "states", "rows", "k", "draw", "row"]
theorem sc_law_tape_rows : FnScope ["draws", "marks", "states", "rows", "k", "draw", "row"] ["draws", "marks", "states"] (defScope s_law_tape_rows) := ⟨rfl, rfl, rfl, by decide +kernel, rfl, by decide +kernel, by decide +kernel⟩
def W_law_tape_rows (T : Tx K mg) : WF := wDef 3 7 ((wSeq (wSet 3 (wLst wNil))
    (wSeq (wFor (wRng1 (wCons (wOp2 gTimes (wVar 1) (wVar 2)) wNil)) (gN 4) (wSeq (wSet 5 (wOp2 gIx (wVar 0) (wVar 4)))
    (wSeq (wSet 6 (wTup (wCons (wOp2 gMod (wVar 5) (wVar 1)) (wCons (wOp2 gMinus (wC (.int 1)) (wOp2 gTimes (wC (.int 2)) (wOp2 gMod (wOp2 gFdiv (wVar 5) (wC (.int 4))) (wC (.int 2))))) (wCons (wOp2 gMod (wOp2 gFdiv (wVar 5) (wC (.int 8))) (wVar 2)) wNil)))))
    (wSeq (wIfS (wB (wOp2 (gEq false) (wOp2 gMod (wOp2 gFdiv (wVar 5) (wC (.int 64))) (wC (.int 6))) (wC (.int 0)))) (wSet 6 (wC .non)) wNext)
    (wExpr (wAppend (wVar 3) (wCons (wVar 6) wNil)))))))
    (wRet (wVar 3)))))
theorem ok_law_tape_rows (T : Tx K mg) : FnD P w K mg base 1 T.a_law_tape_rows T.d_law_tape_rows ["draws", "marks", "states"] (W_law_tape_rows T) := fnD_of T.F_law_tape_rows sc_law_tape_rows (fun cdv A outer s H E hr => (dss_cons (ds_set (i := 3) sc_law_tape_rows.nd (de_lst da_nil))
    (dss_cons (ds_for (di_rng1 (by rfl) T.n_range (da_cons (de_bin o_times (dv 1) (dv 2)) da_nil)) (dg_name (i := 4) sc_law_tape_rows.nd) (dss_cons (ds_set (i := 5) sc_law_tape_rows.nd (de_ix o_ix (dv 0) (dv 4)))
    (dss_cons (ds_set (i := 6) sc_law_tape_rows.nd (de_tup (da_cons (de_bin o_mod (dv 5) (dv 1)) (da_cons (de_bin o_sub de_int (de_bin o_times de_int (de_bin o_mod (de_bin o_div (dv 5) de_int) de_int))) (da_cons (de_bin o_mod (de_bin o_div (dv 5) de_int) (dv 2)) da_nil)))))
    (dss_cons (ds_if (dt_cmp (o_eq hr.units) (de_bin o_mod (de_bin o_div (dv 5) de_int) de_int) de_int) (dss_one (ds_set (i := 6) sc_law_tape_rows.nd de_non)) dss_nil)
    (dss_one (ds_expr (de_append (dv 3) (da_cons (dv 6) da_nil))))))))
    (dss_one (ds_ret (dv 3))))))
abbrev N_is_stack_row : List Str := ["row", "states", "word", "stack", "third", "state"]
theorem sc_is_stack_row : FnScope ["row", "states", "word", "stack", "third", "state"] ["row", "states"] (defScope s_is_stack_row) := ⟨rfl, rfl, rfl, by decide +kernel, rfl, by decide +kernel, by decide +kernel⟩
def W_is_stack_row (T : Tx K mg) : WF := wDef 2 6 ((wSeq (wIfS (wB (wOp2 (gIs false) (wVar 0) (wC .non))) (wRet (wC (.bl true))) wNext)
    (wSeq (wIfS (wOr (wNot (wB (wIsi (wVar 0) "tuple"))) (wB (wOp2 (gEq true) (wCB gLen (wCons (wVar 0) wNil)) (wC (.int 4))))) (wRet (wC (.bl false))) wNext)
    (wSeq (wAsg (wVar 0) (gT 4 (gCn (gN 2) (gCn (gN 3) (gCn (gN 4) (gCn (gN 5) gNl))))))
    (wSeq (wIfS (wOr (wNot (wTru (wCall (W_is_number T) (wCons (wVar 3) (wCons (wC (.int 0)) (wCons (wC (.int 1)) wNil)))))) (wNot (wTru (wCall (W_is_number T) (wCons (wVar 5) (wCons (wC (.int 0)) (wCons (wOp2 gMinus (wVar 1) (wC (.int 1))) wNil))))))) (wRet (wC (.bl false))) wNext)
    (wSeq (wIfS (wB (wOp2 (gEq false) (wVar 2) (wC (.str "push")))) (wRet (wCall (W_is_number T) (wCons (wVar 4) (wCons (wC (.int 0)) (wCons (wC (.int 1)) wNil))))) wNext)
    (wRet (wAndV (wOp2 (gEq false) (wVar 2) (wC (.str "pop"))) (wCall (W_is_number T) (wCons (wVar 4) (wCons (wC (.int 0)) (wCons (wOp2 gMinus (wVar 1) (wC (.int 1))) wNil))))))))))))
theorem ok_is_stack_row (T : Tx K mg) : FnD P w K mg base 3 T.a_is_stack_row T.d_is_stack_row ["row", "states"] (W_is_stack_row T) := fnD_of T.F_is_stack_row sc_is_stack_row (fun cdv A outer s H E hr => (dss_cons (ds_if (dt_cmp o_is (dv 0) de_non) (dss_one (ds_ret de_bl)) dss_nil)
    (dss_cons (ds_if (dt_w (dw_or (dt_not (dt_val (de_isi (by rfl) T.n_isinstance (by rfl) T.n_tuple (by decide +kernel) (dv 0)))) (dw_or1 (dt_cmp (o_ne hr.units) (de_callB c_len (by rfl) T.n_len PySem.boot_len (da_cons (dv 0) da_nil)) de_int)))) (dss_one (ds_ret de_bl)) dss_nil)
    (dss_cons (ds_asg (dv 0) (dg_tup (dgs_cons (dg_name (i := 2) sc_is_stack_row.nd) (dgs_cons (dg_name (i := 3) sc_is_stack_row.nd) (dgs_cons (dg_name (i := 4) sc_is_stack_row.nd) (dgs_cons (dg_name (i := 5) sc_is_stack_row.nd) dgs_nil))))))
    (dss_cons (ds_if (dt_w (dw_or (dt_not (dt_truth (de_call (ok_is_number T) wDef_ar (hr.mono (by decide)) rfl T.m_is_number T.F_is_number.kp T.b_is_number (da_cons (dv 3) (da_cons de_int (da_cons de_int da_nil)))))) (dw_or1 (dt_not (dt_truth (de_call (ok_is_number T) wDef_ar (hr.mono (by decide)) rfl T.m_is_number T.F_is_number.kp T.b_is_number (da_cons (dv 5) (da_cons de_int (da_cons (de_bin o_sub (dv 1) de_int) da_nil))))))))) (dss_one (ds_ret de_bl)) dss_nil)
    (dss_cons (ds_if (dt_cmp (o_eq hr.units) (dv 2) de_str) (dss_one (ds_ret (de_call (ok_is_number T) wDef_ar (hr.mono (by decide)) rfl T.m_is_number T.F_is_number.kp T.b_is_number (da_cons (dv 4) (da_cons de_int (da_cons de_int da_nil)))))) dss_nil)
    (dss_one (ds_ret (de_and (de_cmp (o_eq hr.units) (dv 2) de_str) (de_one (de_call (ok_is_number T) wDef_ar (hr.mono (by decide)) rfl T.m_is_number T.F_is_number.kp T.b_is_number (da_cons (dv 4) (da_cons de_int (da_cons (de_bin o_sub (dv 1) de_int) da_nil))))))))))))))
abbrev N_Stacksdd_initdd : List Str := ["self", "rows", "row"]
theorem sc_Stacksdd_initdd : FnScope ["self", "rows", "row"] ["self", "rows"] (defScope s_Stacksdd_initdd) := ⟨rfl, rfl, rfl, by decide +kernel, rfl, by decide +kernel, by decide +kernel⟩
def W_Stacksdd_initdd (T : Tx K mg) : WF := wDef 2 3 ((wSeq (wIfS (wOr (wNot (wB (wIsi (wVar 1) "list"))) (wNot (wTru (wCall (W_is_number T) (wCons (wCB gLen (wCons (wVar 1) wNil)) (wCons (wC (.int 1)) (wCons (wC (.int 5000)) wNil))))))) (wRaise T.X_BadMachine) wNext)
    (wSeq (wFor (wItems (wVar 1)) (gN 2) (wIfS (wNot (wTru (wCall (W_is_stack_row T) (wCons (wVar 2) (wCons (wCB gLen (wCons (wVar 1) wNil)) wNil))))) (wRaise T.X_BadMachine) wNext))
    (wSeq (wFldS [T.C_Stacks] (wVar 0) (wCB gLen (wCons (wVar 1) wNil)) "states")
    (wFldS [T.C_Stacks] (wVar 0) (wCB gListC (wCons (wVar 1) wNil)) "_rows")))))
theorem ok_Stacksdd_initdd (T : Tx K mg) : FnD P w K mg base 4 T.a_Stacksdd_initdd T.d_Stacksdd_initdd ["self", "rows"] (W_Stacksdd_initdd T) := fnD_of T.F_Stacksdd_initdd sc_Stacksdd_initdd (fun cdv A outer s H E hr => (dss_cons (ds_if (dt_w (dw_or (dt_not (dt_val (de_isi (by rfl) T.n_isinstance (by rfl) T.n_list (by decide +kernel) (dv 1)))) (dw_or1 (dt_not (dt_truth (de_call (ok_is_number T) wDef_ar (hr.mono (by decide)) rfl T.m_is_number T.F_is_number.kp T.b_is_number (da_cons (de_callB c_len (by rfl) T.n_len PySem.boot_len (da_cons (dv 1) da_nil)) (da_cons de_int (da_cons (de_gint T.k_MOST_STATES_stacks) da_nil))))))))) (dss_one (ds_raise PySem.F.excBase_ValueError T.xq_BadMachine T.xg_BadMachine T.xk_BadMachine (raises_own T.xb_BadMachine T.xt_BadMachine) rfl)) dss_nil)
    (dss_cons (ds_for (di_items (dv 1)) (dg_name (i := 2) sc_Stacksdd_initdd.nd) (dss_one (ds_if (dt_not (dt_truth (de_call (ok_is_stack_row T) wDef_ar (hr.mono (by decide)) rfl T.m_is_stack_row T.F_is_stack_row.kp T.b_is_stack_row (da_cons (dv 2) (da_cons (de_callB c_len (by rfl) T.n_len PySem.boot_len (da_cons (dv 1) da_nil)) da_nil))))) (dss_one (ds_raise PySem.F.excBase_ValueError T.xq_BadMachine T.xg_BadMachine T.xk_BadMachine (raises_own T.xb_BadMachine T.xt_BadMachine) rfl)) dss_nil)))
    (dss_cons (ds_fld (dv 0) (de_callB c_len (by rfl) T.n_len PySem.boot_len (da_cons (dv 1) da_nil)) (ClsD.one T.cl_Stacks T.na_Stacks_states))
    (dss_one (ds_fld (dv 0) (de_callTy c_list (by rfl) T.n_list (by decide +kernel) (da_cons (dv 1) da_nil)) (ClsD.one T.cl_Stacks T.na_Stacks__rows)))))))
abbrev N_Tape_row : List Str := ["self", "state", "mark"]
theorem sc_Tape_row : FnScope ["self", "state", "mark"] ["self", "state", "mark"] (defScope s_Tape_row) := ⟨rfl, rfl, rfl, by decide +kernel, rfl, by decide +kernel, by decide +kernel⟩
def W_Tape_row (T : Tx K mg) : WF := wDef 3 3 ((wSeq (wIfS (wNot (wTru (wCall (W_is_number T) (wCons (wVar 1) (wCons (wC (.int 0)) (wCons (wOp2 gMinus (wFld [T.C_Tape] (wVar 0) "states") (wC (.int 1))) wNil)))))) (wRaise T.X_BadMachine) wNext)
    (wSeq (wIfS (wNot (wTru (wCall (W_is_number T) (wCons (wVar 2) (wCons (wC (.int 0)) (wCons (wOp2 gMinus (wFld [T.C_Tape] (wVar 0) "marks") (wC (.int 1))) wNil)))))) (wRaise T.X_BadMachine) wNext)
    (wRet (wOp2 gIx (wFld [T.C_Tape] (wVar 0) "_rows") (wOp2 gAdd (wOp2 gTimes (wVar 1) (wFld [T.C_Tape] (wVar 0) "marks")) (wVar 2)))))))
theorem ok_Tape_row (T : Tx K mg) : FnD P w K mg base 3 T.a_Tape_row T.d_Tape_row ["self", "state", "mark"] (W_Tape_row T) := fnD_of T.F_Tape_row sc_Tape_row (fun cdv A outer s H E hr => (dss_cons (ds_if (dt_not (dt_truth (de_call (ok_is_number T) wDef_ar (hr.mono (by decide)) rfl T.m_is_number T.F_is_number.kp T.b_is_number (da_cons (dv 1) (da_cons de_int (da_cons (de_bin o_sub (de_fld (dv 0) (ClsD.one T.cl_Tape T.na_Tape_states)) de_int) da_nil)))))) (dss_one (ds_raise PySem.F.excBase_ValueError T.xq_BadMachine T.xg_BadMachine T.xk_BadMachine (raises_own T.xb_BadMachine T.xt_BadMachine) rfl)) dss_nil)
    (dss_cons (ds_if (dt_not (dt_truth (de_call (ok_is_number T) wDef_ar (hr.mono (by decide)) rfl T.m_is_number T.F_is_number.kp T.b_is_number (da_cons (dv 2) (da_cons de_int (da_cons (de_bin o_sub (de_fld (dv 0) (ClsD.one T.cl_Tape T.na_Tape_marks)) de_int) da_nil)))))) (dss_one (ds_raise PySem.F.excBase_ValueError T.xq_BadMachine T.xg_BadMachine T.xk_BadMachine (raises_own T.xb_BadMachine T.xt_BadMachine) rfl)) dss_nil)
    (dss_one (ds_ret (de_ix o_ix (de_fld (dv 0) (ClsD.one T.cl_Tape T.na_Tape__rows)) (de_bin o_add (de_bin o_times (dv 1) (de_fld (dv 0) (ClsD.one T.cl_Tape T.na_Tape_marks))) (dv 2))))))))
abbrev N_rows_after_mark : List Str := ["row", "start", "written", "move", "state", "target"]
theorem sc_rows_after_mark : FnScope ["row", "start", "written", "move", "state", "target"] ["row", "start"] (defScope s_rows_after_mark) := ⟨rfl, rfl, rfl, by decide +kernel, rfl, by decide +kernel, by decide +kernel⟩
def W_rows_after_mark (T : Tx K mg) : WF := wDef 2 6 ((wSeq (wIfS (wB (wOp2 (gIs false) (wVar 0) (wC .non))) (wRet (wLst (wCons (wC .non) (wCons (wC .non) (wCons (wC .non) (wCons (wC .non) wNil)))))) wNext)
    (wSeq (wAsg (wVar 0) (gT 3 (gCn (gN 2) (gCn (gN 3) (gCn (gN 4) gNl)))))
    (wSeq (wSet 5 (wOp2 gTimes (wC (.int 9)) (wVar 4)))
    (wSeq (wIfS (wB (wOp2 (gEq false) (wVar 3) (wC (.int 1)))) (wRet (wLst (wCons (wTup (wCons (wC (.str "push")) (wCons (wC (.int 0)) (wCons (wVar 2) (wCons (wVar 5) wNil))))) (wCons (wC .non) (wCons (wC .non) (wCons (wC .non) wNil)))))) wNext)
    (wRet (wLst (wCons (wTup (wCons (wC (.str "push")) (wCons (wC (.int 1)) (wCons (wVar 2) (wCons (wOp2 gAdd (wVar 1) (wC (.int 1))) wNil))))) (wCons (wTup (wCons (wC (.str "pop")) (wCons (wC (.int 0)) (wCons (wOp2 gAdd (wVar 1) (wC (.int 2))) (wCons (wOp2 gAdd (wVar 1) (wC (.int 3))) wNil))))) (wCons (wTup (wCons (wC (.str "push")) (wCons (wC (.int 1)) (wCons (wC (.int 0)) (wCons (wVar 5) wNil))))) (wCons (wTup (wCons (wC (.str "push")) (wCons (wC (.int 1)) (wCons (wC (.int 1)) (wCons (wVar 5) wNil))))) wNil)))))))))))
theorem ok_rows_after_mark (T : Tx K mg) : FnD P w K mg base 1 T.a_rows_after_mark T.d_rows_after_mark ["row", "start"] (W_rows_after_mark T) := fnD_of T.F_rows_after_mark sc_rows_after_mark (fun cdv A outer s H E hr => (dss_cons (ds_if (dt_cmp o_is (dv 0) de_non) (dss_one (ds_ret (de_lst (da_cons de_non (da_cons de_non (da_cons de_non (da_cons de_non da_nil))))))) dss_nil)
    (dss_cons (ds_asg (dv 0) (dg_tup (dgs_cons (dg_name (i := 2) sc_rows_after_mark.nd) (dgs_cons (dg_name (i := 3) sc_rows_after_mark.nd) (dgs_cons (dg_name (i := 4) sc_rows_after_mark.nd) dgs_nil)))))
    (dss_cons (ds_set (i := 5) sc_rows_after_mark.nd (de_bin o_times (de_gint T.k_STATES_FOR_EACH_stackstair) (dv 4)))
    (dss_cons (ds_if (dt_cmp (o_eq hr.units) (dv 3) de_int) (dss_one (ds_ret (de_lst (da_cons (de_tup (da_cons de_str (da_cons de_int (da_cons (dv 2) (da_cons (dv 5) da_nil))))) (da_cons de_non (da_cons de_non (da_cons de_non da_nil))))))) dss_nil)
    (dss_one (ds_ret (de_lst (da_cons (de_tup (da_cons de_str (da_cons de_int (da_cons (dv 2) (da_cons (de_bin o_add (dv 1) de_int) da_nil))))) (da_cons (de_tup (da_cons de_str (da_cons de_int (da_cons (de_bin o_add (dv 1) de_int) (da_cons (de_bin o_add (dv 1) de_int) da_nil))))) (da_cons (de_tup (da_cons de_str (da_cons de_int (da_cons de_int (da_cons (dv 5) da_nil))))) (da_cons (de_tup (da_cons de_str (da_cons de_int (da_cons de_int (da_cons (dv 5) da_nil))))) da_nil))))))))))))
abbrev N_StackStairddall_rows : List Str := ["self", "rows", "state", "start"]
theorem sc_StackStairddall_rows : FnScope ["self", "rows", "state", "start"] ["self"] (defScope s_StackStairddall_rows) := ⟨rfl, rfl, rfl, by decide +kernel, rfl, by decide +kernel, by decide +kernel⟩
def W_StackStairddall_rows (T : Tx K mg) : WF := wDef 1 4 ((wSeq (wSet 1 (wLst wNil))
    (wSeq (wFor (wRng1 (wCons (wFld [T.C_Tape] (wFld [T.C_StackStair] (wVar 0) "upper") "states") wNil)) (gN 2) (wSeq (wSet 3 (wOp2 gTimes (wC (.int 9)) (wVar 2)))
    (wSeq (wExpr (wAppend (wVar 1) (wCons (wTup (wCons (wC (.str "pop")) (wCons (wC (.int 1)) (wCons (wOp2 gAdd (wVar 3) (wC (.int 1))) (wCons (wOp2 gAdd (wVar 3) (wC (.int 5))) wNil))))) wNil)))
    (wSeq (wAugL 1 (wCall (W_rows_after_mark T) (wCons (wMeth T.C_Tape "row" (W_Tape_row T) (wFld [T.C_StackStair] (wVar 0) "upper") (wCons (wVar 2) (wCons (wC (.int 0)) wNil))) (wCons (wOp2 gAdd (wVar 3) (wC (.int 1))) wNil))))
    (wAugL 1 (wCall (W_rows_after_mark T) (wCons (wMeth T.C_Tape "row" (W_Tape_row T) (wFld [T.C_StackStair] (wVar 0) "upper") (wCons (wVar 2) (wCons (wC (.int 1)) wNil))) (wCons (wOp2 gAdd (wVar 3) (wC (.int 5))) wNil))))))))
    (wRet (wVar 1)))))
theorem ok_StackStairddall_rows (T : Tx K mg) : FnD P w K mg base 4 T.a_StackStairddall_rows T.d_StackStairddall_rows ["self"] (W_StackStairddall_rows T) := fnD_of T.F_StackStairddall_rows sc_StackStairddall_rows (fun cdv A outer s H E hr => (dss_cons (ds_set (i := 1) sc_StackStairddall_rows.nd (de_lst da_nil))
    (dss_cons (ds_for (di_rng1 (by rfl) T.n_range (da_cons (de_fld (de_fld (dv 0) (ClsD.one T.cl_StackStair T.na_StackStair_upper)) (ClsD.one T.cl_Tape T.na_Tape_states)) da_nil)) (dg_name (i := 2) sc_StackStairddall_rows.nd) (dss_cons (ds_set (i := 3) sc_StackStairddall_rows.nd (de_bin o_times (de_gint T.k_STATES_FOR_EACH_stackstair) (dv 2)))
    (dss_cons (ds_expr (de_append (dv 1) (da_cons (de_tup (da_cons de_str (da_cons de_int (da_cons (de_bin o_add (dv 3) de_int) (da_cons (de_bin o_add (dv 3) de_int) da_nil))))) da_nil)))
    (dss_cons (ds_addL (i := 1) sc_StackStairddall_rows.nd (de_call (ok_rows_after_mark T) wDef_ar (hr.mono (by decide)) rfl T.m_rows_after_mark T.F_rows_after_mark.kp T.b_rows_after_mark (da_cons (de_meth (de_fld (dv 0) (ClsD.one T.cl_StackStair T.na_StackStair_upper)) T.cl_Tape T.me_Tape_row (ok_Tape_row T) wDef_ar (hr.mono (by decide)) T.b_Tape_row (da_cons (dv 2) (da_cons de_int da_nil))) (da_cons (de_bin o_add (dv 3) de_int) da_nil))))
    (dss_one (ds_addL (i := 1) sc_StackStairddall_rows.nd (de_call (ok_rows_after_mark T) wDef_ar (hr.mono (by decide)) rfl T.m_rows_after_mark T.F_rows_after_mark.kp T.b_rows_after_mark (da_cons (de_meth (de_fld (dv 0) (ClsD.one T.cl_StackStair T.na_StackStair_upper)) T.cl_Tape T.me_Tape_row (ok_Tape_row T) wDef_ar (hr.mono (by decide)) T.b_Tape_row (da_cons (dv 2) (da_cons de_int da_nil))) (da_cons (de_bin o_add (dv 3) de_int) da_nil)))))))))
    (dss_one (ds_ret (dv 1))))))
abbrev N_StackStairdd_initdd : List Str := ["self", "upper"]
theorem sc_StackStairdd_initdd : FnScope ["self", "upper"] ["self", "upper"] (defScope s_StackStairdd_initdd) := ⟨rfl, rfl, rfl, by decide +kernel, rfl, by decide +kernel, by decide +kernel⟩
def W_StackStairdd_initdd (T : Tx K mg) : WF := wDef 2 2 ((wSeq (wIfS (wB (wOp2 (gEq true) (wFld [T.C_Tape] (wVar 1) "marks") (wC (.int 2)))) (wRaise T.X_BadMachine) wNext)
    (wSeq (wIfS (wB (wOp2 gGt (wFld [T.C_Tape] (wVar 1) "states") (wC (.int 500)))) (wRaise T.X_BadMachine) wNext)
    (wSeq (wFldS [T.C_StackStair] (wVar 0) (wVar 1) "upper")
    (wFldS [T.C_StackStair] (wVar 0) (wMake T.C_Stacks (W_Stacksdd_initdd T) (wCons (wMeth T.C_StackStair "_all_rows" (W_StackStairddall_rows T) (wVar 0) wNil) wNil)) "lower")))))
theorem ok_StackStairdd_initdd (T : Tx K mg) : FnD P w K mg base 6 T.a_StackStairdd_initdd T.d_StackStairdd_initdd ["self", "upper"] (W_StackStairdd_initdd T) := fnD_of T.F_StackStairdd_initdd sc_StackStairdd_initdd (fun cdv A outer s H E hr => (dss_cons (ds_if (dt_cmp (o_ne hr.units) (de_fld (dv 1) (ClsD.one T.cl_Tape T.na_Tape_marks)) (de_gint T.k_MARKS)) (dss_one (ds_raise PySem.F.excBase_ValueError T.xq_BadMachine T.xg_BadMachine T.xk_BadMachine (raises_own T.xb_BadMachine T.xt_BadMachine) rfl)) dss_nil)
    (dss_cons (ds_if (dt_cmp o_gt (de_fld (dv 1) (ClsD.one T.cl_Tape T.na_Tape_states)) (de_gint T.k_MOST_UPPER_STATES_stackstair)) (dss_one (ds_raise PySem.F.excBase_ValueError T.xq_BadMachine T.xg_BadMachine T.xk_BadMachine (raises_own T.xb_BadMachine T.xt_BadMachine) rfl)) dss_nil)
    (dss_cons (ds_fld (dv 0) (dv 1) (ClsD.one T.cl_StackStair T.na_StackStair_upper))
    (dss_one (ds_fld (dv 0) (de_make T.mk_Stacks (ok_Stacksdd_initdd T) wDef_ar (hr.mono (by decide)) rfl T.mc_Stacks T.b_Stacksdd_initdd (da_cons (de_meth0 (dv 0) T.cl_StackStair T.me_StackStairddall_rows (ok_StackStairddall_rows T) wDef_ar (hr.mono (by decide)) T.b_StackStairddall_rows) da_nil)) (ClsD.one T.cl_StackStair T.na_StackStair_lower)))))))
abbrev N_is_counter_row : List Str := ["row", "count", "states", "word", "state"]
theorem sc_is_counter_row : FnScope ["row", "count", "states", "word", "state"] ["row", "count", "states"] (defScope s_is_counter_row) := ⟨rfl, rfl, rfl, by decide +kernel, rfl, by decide +kernel, by decide +kernel⟩
def W_is_counter_row (T : Tx K mg) : WF := wDef 3 5 ((wSeq (wIfS (wB (wOp2 (gIs false) (wVar 0) (wC .non))) (wRet (wC (.bl true))) wNext)
    (wSeq (wIfS (wOr (wNot (wB (wIsi (wVar 0) "tuple"))) (wB (wOp2 (gInI true) (wCB gLen (wCons (wVar 0) wNil)) (wTup (wCons (wC (.int 3)) (wCons (wC (.int 4)) wNil)))))) (wRet (wC (.bl false))) wNext)
    (wSeq (wSet 3 (wIf (wB (wOp2 (gEq false) (wCB gLen (wCons (wVar 0) wNil)) (wC (.int 3)))) (wC (.str "inc")) (wC (.str "dec"))))
    (wSeq (wIfS (wOr (wB (wOp2 (gEq true) (wOp2 gIx (wVar 0) (wC (.int 0))) (wVar 3))) (wNot (wTru (wCall (W_is_number T) (wCons (wOp2 gIx (wVar 0) (wC (.int 1))) (wCons (wC (.int 0)) (wCons (wOp2 gMinus (wVar 1) (wC (.int 1))) wNil))))))) (wRet (wC (.bl false))) wNext)
    (wRet (wCB (gAllL fun bs => bs.all id) (wCons (wLc (wItems (wSl (wVar 0) (wPart (wC (.int 2))) wNoP)) 4 wYes (wCall (W_is_number T) (wCons (wVar 4) (wCons (wC (.int 0)) (wCons (wOp2 gMinus (wVar 2) (wC (.int 1))) wNil))))) wNil))))))))
theorem ok_is_counter_row (T : Tx K mg) : FnD P w K mg base 3 T.a_is_counter_row T.d_is_counter_row ["row", "count", "states"] (W_is_counter_row T) := fnD_of T.F_is_counter_row sc_is_counter_row (fun cdv A outer s H E hr => (dss_cons (ds_if (dt_cmp o_is (dv 0) de_non) (dss_one (ds_ret de_bl)) dss_nil)
    (dss_cons (ds_if (dt_w (dw_or (dt_not (dt_val (de_isi (by rfl) T.n_isinstance (by rfl) T.n_tuple (by decide +kernel) (dv 0)))) (dw_or1 (dt_cmp o_notinI (de_callB c_len (by rfl) T.n_len PySem.boot_len (da_cons (dv 0) da_nil)) (de_tup (da_cons de_int (da_cons de_int da_nil))))))) (dss_one (ds_ret de_bl)) dss_nil)
    (dss_cons (ds_set (i := 3) sc_is_counter_row.nd (de_if (dt_cmp (o_eq hr.units) (de_callB c_len (by rfl) T.n_len PySem.boot_len (da_cons (dv 0) da_nil)) de_int) de_str de_str))
    (dss_cons (ds_if (dt_w (dw_or (dt_cmp (o_ne hr.units) (de_ix o_ix (dv 0) de_int) (dv 3)) (dw_or1 (dt_not (dt_truth (de_call (ok_is_number T) wDef_ar (hr.mono (by decide)) rfl T.m_is_number T.F_is_number.kp T.b_is_number (da_cons (de_ix o_ix (dv 0) de_int) (da_cons de_int (da_cons (de_bin o_sub (dv 1) de_int) da_nil))))))))) (dss_one (ds_ret de_bl)) dss_nil)
    (dss_one (ds_ret (de_callB c_all (by rfl) T.n_all (by decide +kernel) (da_cons (de_lc sc_is_counter_row.nd (di_items (de_sl (dv 0) (do_some de_int) do_none)) (blkOk_by (N := N_is_counter_row) (sc := defScope s_is_counter_row) (by decide +kernel)) (fun _ _ _ _ _ => pg_name (i := 4) sc_is_counter_row.nd rfl (Or.inl rfl)) (fun _ _ _ _ _ => dts_nil) (fun _ _ _ _ _ => (de_call (ok_is_number T) wDef_ar (hr.mono (by decide)) rfl T.m_is_number T.F_is_number.kp T.b_is_number (da_cons (dv 4) (da_cons de_int (da_cons (de_bin o_sub (dv 2) de_int) da_nil)))))) da_nil)))))))))
abbrev N_Countersdd_initdd : List Str := ["self", "count", "rows", "row"]
theorem sc_Countersdd_initdd : FnScope ["self", "count", "rows", "row"] ["self", "count", "rows"] (defScope s_Countersdd_initdd) := ⟨rfl, rfl, rfl, by decide +kernel, rfl, by decide +kernel, by decide +kernel⟩
def W_Countersdd_initdd (T : Tx K mg) : WF := wDef 3 4 ((wSeq (wIfS (wNot (wTru (wCall (W_is_number T) (wCons (wVar 1) (wCons (wC (.int 1)) (wCons (wC (.int 4)) wNil)))))) (wRaise T.X_BadMachine) wNext)
    (wSeq (wIfS (wOr (wNot (wB (wIsi (wVar 2) "list"))) (wNot (wTru (wCall (W_is_number T) (wCons (wCB gLen (wCons (wVar 2) wNil)) (wCons (wC (.int 1)) (wCons (wC (.int 40000)) wNil))))))) (wRaise T.X_BadMachine) wNext)
    (wSeq (wFor (wItems (wVar 2)) (gN 3) (wIfS (wNot (wTru (wCall (W_is_counter_row T) (wCons (wVar 3) (wCons (wVar 1) (wCons (wCB gLen (wCons (wVar 2) wNil)) wNil)))))) (wRaise T.X_BadMachine) wNext))
    (wSeq (wFldS [T.C_Counters] (wVar 0) (wVar 1) "count")
    (wSeq (wFldS [T.C_Counters] (wVar 0) (wCB gLen (wCons (wVar 2) wNil)) "states")
    (wFldS [T.C_Counters] (wVar 0) (wCB gListC (wCons (wVar 2) wNil)) "_rows")))))))
theorem ok_Countersdd_initdd (T : Tx K mg) : FnD P w K mg base 4 T.a_Countersdd_initdd T.d_Countersdd_initdd ["self", "count", "rows"] (W_Countersdd_initdd T) := fnD_of T.F_Countersdd_initdd sc_Countersdd_initdd (fun cdv A outer s H E hr => (dss_cons (ds_if (dt_not (dt_truth (de_call (ok_is_number T) wDef_ar (hr.mono (by decide)) rfl T.m_is_number T.F_is_number.kp T.b_is_number (da_cons (dv 1) (da_cons de_int (da_cons (de_gint T.k_MOST_COUNTERS) da_nil)))))) (dss_one (ds_raise PySem.F.excBase_ValueError T.xq_BadMachine T.xg_BadMachine T.xk_BadMachine (raises_own T.xb_BadMachine T.xt_BadMachine) rfl)) dss_nil)
    (dss_cons (ds_if (dt_w (dw_or (dt_not (dt_val (de_isi (by rfl) T.n_isinstance (by rfl) T.n_list (by decide +kernel) (dv 2)))) (dw_or1 (dt_not (dt_truth (de_call (ok_is_number T) wDef_ar (hr.mono (by decide)) rfl T.m_is_number T.F_is_number.kp T.b_is_number (da_cons (de_callB c_len (by rfl) T.n_len PySem.boot_len (da_cons (dv 2) da_nil)) (da_cons de_int (da_cons (de_gint T.k_MOST_STATES_counters) da_nil))))))))) (dss_one (ds_raise PySem.F.excBase_ValueError T.xq_BadMachine T.xg_BadMachine T.xk_BadMachine (raises_own T.xb_BadMachine T.xt_BadMachine) rfl)) dss_nil)
    (dss_cons (ds_for (di_items (dv 2)) (dg_name (i := 3) sc_Countersdd_initdd.nd) (dss_one (ds_if (dt_not (dt_truth (de_call (ok_is_counter_row T) wDef_ar (hr.mono (by decide)) rfl T.m_is_counter_row T.F_is_counter_row.kp T.b_is_counter_row (da_cons (dv 3) (da_cons (dv 1) (da_cons (de_callB c_len (by rfl) T.n_len PySem.boot_len (da_cons (dv 2) da_nil)) da_nil)))))) (dss_one (ds_raise PySem.F.excBase_ValueError T.xq_BadMachine T.xg_BadMachine T.xk_BadMachine (raises_own T.xb_BadMachine T.xt_BadMachine) rfl)) dss_nil)))
    (dss_cons (ds_fld (dv 0) (dv 1) (ClsD.one T.cl_Counters T.na_Counters_count))
    (dss_cons (ds_fld (dv 0) (de_callB c_len (by rfl) T.n_len PySem.boot_len (da_cons (dv 2) da_nil)) (ClsD.one T.cl_Counters T.na_Counters_states))
    (dss_one (ds_fld (dv 0) (de_callTy c_list (by rfl) T.n_list (by decide +kernel) (da_cons (dv 2) da_nil)) (ClsD.one T.cl_Counters T.na_Counters__rows)))))))))
abbrev N_Stacks_table : List Str := ["self"]
theorem sc_Stacks_table : FnScope ["self"] ["self"] (defScope s_Stacks_table) := ⟨rfl, rfl, rfl, by decide +kernel, rfl, by decide +kernel, by decide +kernel⟩
def W_Stacks_table (T : Tx K mg) : WF := wDef 1 1 ((wRet (wCB gListC (wCons (wFld [T.C_Stacks] (wVar 0) "_rows") wNil))))
theorem ok_Stacks_table (T : Tx K mg) : FnD P w K mg base 1 T.a_Stacks_table T.d_Stacks_table ["self"] (W_Stacks_table T) := fnD_of T.F_Stacks_table sc_Stacks_table (fun cdv A outer s H E hr => (dss_one (ds_ret (de_callTy c_list (by rfl) T.n_list (by decide +kernel) (da_cons (de_fld (dv 0) (ClsD.one T.cl_Stacks T.na_Stacks__rows)) da_nil)))))
abbrev N_rows_of_push : List Str := ["row", "start", "_", "counter", "bit", "state", "target"]
theorem sc_rows_of_push : FnScope ["row", "start", "_", "counter", "bit", "state", "target"] ["row", "start"] (defScope s_rows_of_push) := ⟨rfl, rfl, rfl, by decide +kernel, rfl, by decide +kernel, by decide +kernel⟩
def W_rows_of_push (T : Tx K mg) : WF := wDef 2 7 ((wSeq (wAsg (wVar 0) (gT 4 (gCn (gN 2) (gCn (gN 3) (gCn (gN 4) (gCn (gN 5) gNl))))))
    (wSeq (wSet 6 (wOp2 gTimes (wC (.int 7)) (wVar 5)))
    (wRet (wLst (wCons (wTup (wCons (wC (.str "dec")) (wCons (wVar 3) (wCons (wOp2 gAdd (wVar 1) (wC (.int 1))) (wCons (wOp2 gAdd (wVar 1) (wC (.int 3))) wNil))))) (wCons (wTup (wCons (wC (.str "inc")) (wCons (wC (.int 2)) (wCons (wOp2 gAdd (wVar 1) (wC (.int 2))) wNil)))) (wCons (wTup (wCons (wC (.str "inc")) (wCons (wC (.int 2)) (wCons (wVar 1) wNil)))) (wCons (wTup (wCons (wC (.str "dec")) (wCons (wC (.int 2)) (wCons (wOp2 gAdd (wVar 1) (wC (.int 4))) (wCons (wIf (wB (wOp2 (gEq false) (wVar 4) (wC (.int 1)))) (wOp2 gAdd (wVar 1) (wC (.int 5))) (wVar 6)) wNil))))) (wCons (wTup (wCons (wC (.str "inc")) (wCons (wVar 3) (wCons (wOp2 gAdd (wVar 1) (wC (.int 3))) wNil)))) (wCons (wTup (wCons (wC (.str "inc")) (wCons (wVar 3) (wCons (wVar 6) wNil)))) (wCons (wC .non) wNil))))))))))))
theorem ok_rows_of_push (T : Tx K mg) : FnD P w K mg base 1 T.a_rows_of_push T.d_rows_of_push ["row", "start"] (W_rows_of_push T) := fnD_of T.F_rows_of_push sc_rows_of_push (fun cdv A outer s H E hr => (dss_cons (ds_asg (dv 0) (dg_tup (dgs_cons (dg_name (i := 2) sc_rows_of_push.nd) (dgs_cons (dg_name (i := 3) sc_rows_of_push.nd) (dgs_cons (dg_name (i := 4) sc_rows_of_push.nd) (dgs_cons (dg_name (i := 5) sc_rows_of_push.nd) dgs_nil))))))
    (dss_cons (ds_set (i := 6) sc_rows_of_push.nd (de_bin o_times (de_gint T.k_STATES_FOR_EACH_counterstair) (dv 5)))
    (dss_one (ds_ret (de_lst (da_cons (de_tup (da_cons de_str (da_cons (dv 3) (da_cons (de_bin o_add (dv 1) de_int) (da_cons (de_bin o_add (dv 1) de_int) da_nil))))) (da_cons (de_tup (da_cons de_str (da_cons (de_gint T.k_SPARE) (da_cons (de_bin o_add (dv 1) de_int) da_nil)))) (da_cons (de_tup (da_cons de_str (da_cons (de_gint T.k_SPARE) (da_cons (dv 1) da_nil)))) (da_cons (de_tup (da_cons de_str (da_cons (de_gint T.k_SPARE) (da_cons (de_bin o_add (dv 1) de_int) (da_cons (de_if (dt_cmp (o_eq hr.units) (dv 4) de_int) (de_bin o_add (dv 1) de_int) (dv 6)) da_nil))))) (da_cons (de_tup (da_cons de_str (da_cons (dv 3) (da_cons (de_bin o_add (dv 1) de_int) da_nil)))) (da_cons (de_tup (da_cons de_str (da_cons (dv 3) (da_cons (dv 6) da_nil)))) (da_cons de_non da_nil)))))))))))))
abbrev N_rows_of_pop : List Str := ["row", "start", "_", "counter", "if_even", "if_odd"]
theorem sc_rows_of_pop : FnScope ["row", "start", "_", "counter", "if_even", "if_odd"] ["row", "start"] (defScope s_rows_of_pop) := ⟨rfl, rfl, rfl, by decide +kernel, rfl, by decide +kernel, by decide +kernel⟩
def W_rows_of_pop (T : Tx K mg) : WF := wDef 2 6 ((wSeq (wAsg (wVar 0) (gT 4 (gCn (gN 2) (gCn (gN 3) (gCn (gN 4) (gCn (gN 5) gNl))))))
    (wRet (wLst (wCons (wTup (wCons (wC (.str "dec")) (wCons (wVar 3) (wCons (wOp2 gAdd (wVar 1) (wC (.int 1))) (wCons (wOp2 gAdd (wVar 1) (wC (.int 3))) wNil))))) (wCons (wTup (wCons (wC (.str "dec")) (wCons (wVar 3) (wCons (wOp2 gAdd (wVar 1) (wC (.int 2))) (wCons (wOp2 gAdd (wVar 1) (wC (.int 5))) wNil))))) (wCons (wTup (wCons (wC (.str "inc")) (wCons (wC (.int 2)) (wCons (wVar 1) wNil)))) (wCons (wTup (wCons (wC (.str "dec")) (wCons (wC (.int 2)) (wCons (wOp2 gAdd (wVar 1) (wC (.int 4))) (wCons (wOp2 gTimes (wC (.int 7)) (wVar 4)) wNil))))) (wCons (wTup (wCons (wC (.str "inc")) (wCons (wVar 3) (wCons (wOp2 gAdd (wVar 1) (wC (.int 3))) wNil)))) (wCons (wTup (wCons (wC (.str "dec")) (wCons (wC (.int 2)) (wCons (wOp2 gAdd (wVar 1) (wC (.int 6))) (wCons (wOp2 gTimes (wC (.int 7)) (wVar 5)) wNil))))) (wCons (wTup (wCons (wC (.str "inc")) (wCons (wVar 3) (wCons (wOp2 gAdd (wVar 1) (wC (.int 5))) wNil)))) wNil)))))))))))
theorem ok_rows_of_pop (T : Tx K mg) : FnD P w K mg base 1 T.a_rows_of_pop T.d_rows_of_pop ["row", "start"] (W_rows_of_pop T) := fnD_of T.F_rows_of_pop sc_rows_of_pop (fun cdv A outer s H E hr => (dss_cons (ds_asg (dv 0) (dg_tup (dgs_cons (dg_name (i := 2) sc_rows_of_pop.nd) (dgs_cons (dg_name (i := 3) sc_rows_of_pop.nd) (dgs_cons (dg_name (i := 4) sc_rows_of_pop.nd) (dgs_cons (dg_name (i := 5) sc_rows_of_pop.nd) dgs_nil))))))
    (dss_one (ds_ret (de_lst (da_cons (de_tup (da_cons de_str (da_cons (dv 3) (da_cons (de_bin o_add (dv 1) de_int) (da_cons (de_bin o_add (dv 1) de_int) da_nil))))) (da_cons (de_tup (da_cons de_str (da_cons (dv 3) (da_cons (de_bin o_add (dv 1) de_int) (da_cons (de_bin o_add (dv 1) de_int) da_nil))))) (da_cons (de_tup (da_cons de_str (da_cons (de_gint T.k_SPARE) (da_cons (dv 1) da_nil)))) (da_cons (de_tup (da_cons de_str (da_cons (de_gint T.k_SPARE) (da_cons (de_bin o_add (dv 1) de_int) (da_cons (de_bin o_times (de_gint T.k_STATES_FOR_EACH_counterstair) (dv 4)) da_nil))))) (da_cons (de_tup (da_cons de_str (da_cons (dv 3) (da_cons (de_bin o_add (dv 1) de_int) da_nil)))) (da_cons (de_tup (da_cons de_str (da_cons (de_gint T.k_SPARE) (da_cons (de_bin o_add (dv 1) de_int) (da_cons (de_bin o_times (de_gint T.k_STATES_FOR_EACH_counterstair) (dv 5)) da_nil))))) (da_cons (de_tup (da_cons de_str (da_cons (dv 3) (da_cons (de_bin o_add (dv 1) de_int) da_nil)))) da_nil))))))))))))
abbrev N_CounterStairddall_rows : List Str := ["self", "rows", "state", "row", "start"]
theorem sc_CounterStairddall_rows : FnScope ["self", "rows", "state", "row", "start"] ["self"] (defScope s_CounterStairddall_rows) := ⟨rfl, rfl, rfl, by decide +kernel, rfl, by decide +kernel, by decide +kernel⟩
def W_CounterStairddall_rows (T : Tx K mg) : WF := wDef 1 5 ((wSeq (wSet 1 (wLst wNil))
    (wSeq (wFor (wEnumA (wCons (wMeth T.C_Stacks "table" (W_Stacks_table T) (wFld [T.C_CounterStair] (wVar 0) "upper") wNil) wNil)) (gT 2 (gCn (gN 2) (gCn (gN 3) gNl))) (wSeq (wSet 4 (wOp2 gTimes (wC (.int 7)) (wVar 2)))
    (wIfS (wB (wOp2 (gIs false) (wVar 3) (wC .non))) (wAugL 1 (wOp2 gTimesL (wLst (wCons (wC .non) wNil)) (wC (.int 7)))) (wIfS (wB (wOp2 (gEq false) (wOp2 gIx (wVar 3) (wC (.int 0))) (wC (.str "push")))) (wAugL 1 (wCall (W_rows_of_push T) (wCons (wVar 3) (wCons (wVar 4) wNil)))) (wAugL 1 (wCall (W_rows_of_pop T) (wCons (wVar 3) (wCons (wVar 4) wNil))))))))
    (wRet (wVar 1)))))
theorem ok_CounterStairddall_rows (T : Tx K mg) : FnD P w K mg base 2 T.a_CounterStairddall_rows T.d_CounterStairddall_rows ["self"] (W_CounterStairddall_rows T) := fnD_of T.F_CounterStairddall_rows sc_CounterStairddall_rows (fun cdv A outer s H E hr => (dss_cons (ds_set (i := 1) sc_CounterStairddall_rows.nd (de_lst da_nil))
    (dss_cons (ds_for (di_enumA (by rfl) T.n_enumerate (da_cons (de_meth0 (de_fld (dv 0) (ClsD.one T.cl_CounterStair T.na_CounterStair_upper)) T.cl_Stacks T.me_Stacks_table (ok_Stacks_table T) wDef_ar (hr.mono (by decide)) T.b_Stacks_table) da_nil)) (dg_tup (dgs_cons (dg_name (i := 2) sc_CounterStairddall_rows.nd) (dgs_cons (dg_name (i := 3) sc_CounterStairddall_rows.nd) dgs_nil))) (dss_cons (ds_set (i := 4) sc_CounterStairddall_rows.nd (de_bin o_times (de_gint T.k_STATES_FOR_EACH_counterstair) (dv 2)))
    (dss_one (ds_if (dt_cmp o_is (dv 3) de_non) (dss_one (ds_addL (i := 1) sc_CounterStairddall_rows.nd (de_bin o_timesL (de_lst (da_cons de_non da_nil)) (de_gint T.k_STATES_FOR_EACH_counterstair)))) (dss_one (ds_if (dt_cmp (o_eq hr.units) (de_ix o_ix (dv 3) de_int) de_str) (dss_one (ds_addL (i := 1) sc_CounterStairddall_rows.nd (de_call (ok_rows_of_push T) wDef_ar (hr.mono (by decide)) rfl T.m_rows_of_push T.F_rows_of_push.kp T.b_rows_of_push (da_cons (dv 3) (da_cons (dv 4) da_nil))))) (dss_one (ds_addL (i := 1) sc_CounterStairddall_rows.nd (de_call (ok_rows_of_pop T) wDef_ar (hr.mono (by decide)) rfl T.m_rows_of_pop T.F_rows_of_pop.kp T.b_rows_of_pop (da_cons (dv 3) (da_cons (dv 4) da_nil)))))))))))
    (dss_one (ds_ret (dv 1))))))
abbrev N_CounterStairdd_initdd : List Str := ["self", "upper"]
theorem sc_CounterStairdd_initdd : FnScope ["self", "upper"] ["self", "upper"] (defScope s_CounterStairdd_initdd) := ⟨rfl, rfl, rfl, by decide +kernel, rfl, by decide +kernel, by decide +kernel⟩
def W_CounterStairdd_initdd (T : Tx K mg) : WF := wDef 2 2 ((wSeq (wFldS [T.C_CounterStair] (wVar 0) (wVar 1) "upper")
    (wFldS [T.C_CounterStair] (wVar 0) (wMake T.C_Counters (W_Countersdd_initdd T) (wCons (wC (.int 3)) (wCons (wMeth T.C_CounterStair "_all_rows" (W_CounterStairddall_rows T) (wVar 0) wNil) wNil))) "lower")))
theorem ok_CounterStairdd_initdd (T : Tx K mg) : FnD P w K mg base 6 T.a_CounterStairdd_initdd T.d_CounterStairdd_initdd ["self", "upper"] (W_CounterStairdd_initdd T) := fnD_of T.F_CounterStairdd_initdd sc_CounterStairdd_initdd (fun cdv A outer s H E hr => (dss_cons (ds_fld (dv 0) (dv 1) (ClsD.one T.cl_CounterStair T.na_CounterStair_upper))
    (dss_one (ds_fld (dv 0) (de_make T.mk_Counters (ok_Countersdd_initdd T) wDef_ar (hr.mono (by decide)) rfl T.mc_Counters T.b_Countersdd_initdd (da_cons (de_gint T.k_COUNTERS) (da_cons (de_meth0 (dv 0) T.cl_CounterStair T.me_CounterStairddall_rows (ok_CounterStairddall_rows T) wDef_ar (hr.mono (by decide)) T.b_CounterStairddall_rows) da_nil))) (ClsD.one T.cl_CounterStair T.na_CounterStair_lower)))))
abbrev N_Counters_table : List Str := ["self"]
theorem sc_Counters_table : FnScope ["self"] ["self"] (defScope s_Counters_table) := ⟨rfl, rfl, rfl, by decide +kernel, rfl, by decide +kernel, by decide +kernel⟩
def W_Counters_table (T : Tx K mg) : WF := wDef 1 1 ((wRet (wCB gListC (wCons (wFld [T.C_Counters] (wVar 0) "_rows") wNil))))
theorem ok_Counters_table (T : Tx K mg) : FnD P w K mg base 1 T.a_Counters_table T.d_Counters_table ["self"] (W_Counters_table T) := fnD_of T.F_Counters_table sc_Counters_table (fun cdv A outer s H E hr => (dss_one (ds_ret (de_callTy c_list (by rfl) T.n_list (by decide +kernel) (da_cons (de_fld (dv 0) (ClsD.one T.cl_Counters T.na_Counters__rows)) da_nil)))))
abbrev N_rows_at_home : List Str := ["row", "home", "origin", "rows", "mark"]
theorem sc_rows_at_home : FnScope ["row", "home", "origin", "rows", "mark"] ["row", "home", "origin"] (defScope s_rows_at_home) := ⟨rfl, rfl, rfl, by decide +kernel, rfl, by decide +kernel, by decide +kernel⟩
def W_rows_at_home (T : Tx K mg) : WF := wDef 3 5 ((wSeq (wSet 3 (wLc (wRng1 (wCons (wOp2 gTimes (wC (.int 2)) (wVar 2)) wNil)) 4 wYes (wTup (wCons (wVar 4) (wCons (wNeg (wC (.int 1))) (wCons (wVar 1) wNil))))))
    (wSeq (wAsg (wIf (wB (wOp2 (gIs false) (wVar 0) (wC .non))) (wC .non) (wTup (wCons (wVar 2) (wCons (wC (.int 1)) (wCons (wOp2 gAdd (wVar 1) (wC (.int 1))) wNil))))) (gSub (wVar 3) (wVar 2)))
    (wRet (wVar 3)))))
theorem ok_rows_at_home (T : Tx K mg) : FnD P w K mg base 1 T.a_rows_at_home T.d_rows_at_home ["row", "home", "origin"] (W_rows_at_home T) := fnD_of T.F_rows_at_home sc_rows_at_home (fun cdv A outer s H E hr => (dss_cons (ds_setLc sc_rows_at_home.nd (di_rng1 (by rfl) T.n_range (da_cons (de_bin o_times de_int (dv 2)) da_nil)) (blkOk_by (N := N_rows_at_home) (sc := defScope s_rows_at_home) (by decide +kernel)) (fun _ _ _ _ _ => pg_name (i := 4) sc_rows_at_home.nd rfl (Or.inl rfl)) (fun _ _ _ _ _ => dts_nil) (fun _ _ _ _ _ => (de_tup (da_cons (dv 4) (da_cons (de_neg de_int) (da_cons (dv 1) da_nil))))) (sw_true rfl rfl rfl (by decide +kernel)))
    (dss_cons (ds_asg (de_if (dt_cmp o_is (dv 0) de_non) de_non (de_tup (da_cons (dv 2) (da_cons de_int (da_cons (de_bin o_add (dv 1) de_int) da_nil))))) (dg_sub (dv 3) (dv 2)))
    (dss_one (ds_ret (dv 3))))))
abbrev N_rows_of_inc : List Str := ["row", "home", "origin", "_", "counter", "state", "bit", "target", "seek", "mark"]
theorem sc_rows_of_inc : FnScope ["row", "home", "origin", "_", "counter", "state", "bit", "target", "seek", "mark"] ["row", "home", "origin"] (defScope s_rows_of_inc) := ⟨rfl, rfl, rfl, by decide +kernel, rfl, by decide +kernel, by decide +kernel⟩
def W_rows_of_inc (T : Tx K mg) : WF := wDef 3 10 ((wSeq (wAsg (wVar 0) (gT 3 (gCn (gN 3) (gCn (gN 4) (gCn (gN 5) gNl)))))
    (wSeq (wSet 6 (wOp2 gShl (wC (.int 1)) (wVar 4)))
    (wSeq (wSet 7 (wOp2 gTimes (wC (.int 4)) (wVar 5)))
    (wSeq (wSet 8 (wLc (wRng1 (wCons (wVar 2) wNil)) 9 wYes (wIf (wTru (wOp2 gBand (wVar 9) (wVar 6))) (wTup (wCons (wVar 9) (wCons (wC (.int 1)) (wCons (wOp2 gAdd (wVar 1) (wC (.int 1))) wNil)))) (wTup (wCons (wOp2 gAdd (wVar 9) (wVar 6)) (wCons (wNeg (wC (.int 1))) (wCons (wVar 7) wNil)))))))
    (wRet (wOp2 gAdd (wVar 8) (wOp2 gTimesL (wLst (wCons (wC .non) wNil)) (wOp2 gTimes (wC (.int 5)) (wVar 2))))))))))
theorem ok_rows_of_inc (T : Tx K mg) : FnD P w K mg base 1 T.a_rows_of_inc T.d_rows_of_inc ["row", "home", "origin"] (W_rows_of_inc T) := fnD_of T.F_rows_of_inc sc_rows_of_inc (fun cdv A outer s H E hr => (dss_cons (ds_asg (dv 0) (dg_tup (dgs_cons (dg_name (i := 3) sc_rows_of_inc.nd) (dgs_cons (dg_name (i := 4) sc_rows_of_inc.nd) (dgs_cons (dg_name (i := 5) sc_rows_of_inc.nd) dgs_nil)))))
    (dss_cons (ds_set (i := 6) sc_rows_of_inc.nd (de_bin o_shl de_int (dv 4)))
    (dss_cons (ds_set (i := 7) sc_rows_of_inc.nd (de_bin o_times (de_gint T.k_STATES_FOR_EACH_upstair) (dv 5)))
    (dss_cons (ds_setLc sc_rows_of_inc.nd (di_rng1 (by rfl) T.n_range (da_cons (dv 2) da_nil)) (blkOk_by (N := N_rows_of_inc) (sc := defScope s_rows_of_inc) (by decide +kernel)) (fun _ _ _ _ _ => pg_name (i := 9) sc_rows_of_inc.nd rfl (Or.inl rfl)) (fun _ _ _ _ _ => dts_nil) (fun _ _ _ _ _ => (de_if (dt_truth (de_bin o_and (dv 9) (dv 6))) (de_tup (da_cons (dv 9) (da_cons de_int (da_cons (de_bin o_add (dv 1) de_int) da_nil)))) (de_tup (da_cons (de_bin o_add (dv 9) (dv 6)) (da_cons (de_neg de_int) (da_cons (dv 7) da_nil)))))) (sw_true rfl rfl rfl (by decide +kernel)))
    (dss_one (ds_ret (de_bin o_add (dv 8) (de_bin o_timesL (de_lst (da_cons de_non da_nil)) (de_bin o_times de_int (dv 2)))))))))))
abbrev N_rows_of_dec : List Str := ["row", "home", "origin", "_", "counter", "if_more", "if_none", "bit", "more", "none", "others", "look", "seek", "take", "mark"]
theorem sc_rows_of_dec : FnScope ["row", "home", "origin", "_", "counter", "if_more", "if_none", "bit", "more", "none", "others", "look", "seek", "take", "mark"] ["row", "home", "origin"] (defScope s_rows_of_dec) := ⟨rfl, rfl, rfl, by decide +kernel, rfl, by decide +kernel, by decide +kernel⟩
def W_rows_of_dec (T : Tx K mg) : WF := wDef 3 15 ((wSeq (wAsg (wVar 0) (gT 4 (gCn (gN 3) (gCn (gN 4) (gCn (gN 5) (gCn (gN 6) gNl))))))
    (wSeq (wSet 7 (wOp2 gShl (wC (.int 1)) (wVar 4)))
    (wSeq (wSet 8 (wOp2 gTimes (wC (.int 4)) (wVar 5)))
    (wSeq (wSet 9 (wOp2 gTimes (wC (.int 4)) (wVar 6)))
    (wSeq (wSet 10 (wOp2 gTimesL (wLst (wCons (wC .non) wNil)) (wVar 2)))
    (wSeq (wSet 11 (wLc (wRng1 (wCons (wVar 2) wNil)) 14 wYes (wIf (wTru (wOp2 gBand (wVar 14) (wVar 7))) (wTup (wCons (wVar 14) (wCons (wC (.int 1)) (wCons (wOp2 gAdd (wVar 1) (wC (.int 2))) wNil)))) (wTup (wCons (wVar 14) (wCons (wNeg (wC (.int 1))) (wCons (wVar 9) wNil)))))))
    (wSeq (wSet 12 (wLc (wRng1 (wCons (wVar 2) wNil)) 14 wYes (wIf (wTru (wOp2 gBand (wVar 14) (wVar 7))) (wTup (wCons (wVar 14) (wCons (wC (.int 1)) (wCons (wOp2 gAdd (wVar 1) (wC (.int 2))) wNil)))) (wTup (wCons (wVar 14) (wCons (wNeg (wC (.int 1))) (wCons (wOp2 gAdd (wVar 1) (wC (.int 3))) wNil)))))))
    (wSeq (wSet 13 (wLc (wRng1 (wCons (wVar 2) wNil)) 14 wYes (wIf (wTru (wOp2 gBand (wVar 14) (wVar 7))) (wTup (wCons (wOp2 gMinus (wVar 14) (wVar 7)) (wCons (wNeg (wC (.int 1))) (wCons (wVar 8) wNil)))) (wC .non))))
    (wRet (wOp2 gAdd (wOp2 gAdd (wOp2 gAdd (wOp2 gAdd (wOp2 gAdd (wVar 11) (wVar 10)) (wVar 12)) (wVar 10)) (wVar 13)) (wVar 10))))))))))))
theorem ok_rows_of_dec (T : Tx K mg) : FnD P w K mg base 1 T.a_rows_of_dec T.d_rows_of_dec ["row", "home", "origin"] (W_rows_of_dec T) := fnD_of T.F_rows_of_dec sc_rows_of_dec (fun cdv A outer s H E hr => (dss_cons (ds_asg (dv 0) (dg_tup (dgs_cons (dg_name (i := 3) sc_rows_of_dec.nd) (dgs_cons (dg_name (i := 4) sc_rows_of_dec.nd) (dgs_cons (dg_name (i := 5) sc_rows_of_dec.nd) (dgs_cons (dg_name (i := 6) sc_rows_of_dec.nd) dgs_nil))))))
    (dss_cons (ds_set (i := 7) sc_rows_of_dec.nd (de_bin o_shl de_int (dv 4)))
    (dss_cons (ds_set (i := 8) sc_rows_of_dec.nd (de_bin o_times (de_gint T.k_STATES_FOR_EACH_upstair) (dv 5)))
    (dss_cons (ds_set (i := 9) sc_rows_of_dec.nd (de_bin o_times (de_gint T.k_STATES_FOR_EACH_upstair) (dv 6)))
    (dss_cons (ds_set (i := 10) sc_rows_of_dec.nd (de_bin o_timesL (de_lst (da_cons de_non da_nil)) (dv 2)))
    (dss_cons (ds_setLc sc_rows_of_dec.nd (di_rng1 (by rfl) T.n_range (da_cons (dv 2) da_nil)) (blkOk_by (N := N_rows_of_dec) (sc := defScope s_rows_of_dec) (by decide +kernel)) (fun _ _ _ _ _ => pg_name (i := 14) sc_rows_of_dec.nd rfl (Or.inl rfl)) (fun _ _ _ _ _ => dts_nil) (fun _ _ _ _ _ => (de_if (dt_truth (de_bin o_and (dv 14) (dv 7))) (de_tup (da_cons (dv 14) (da_cons de_int (da_cons (de_bin o_add (dv 1) de_int) da_nil)))) (de_tup (da_cons (dv 14) (da_cons (de_neg de_int) (da_cons (dv 9) da_nil)))))) (sw_true rfl rfl rfl (by decide +kernel)))
    (dss_cons (ds_setLc sc_rows_of_dec.nd (di_rng1 (by rfl) T.n_range (da_cons (dv 2) da_nil)) (blkOk_by (N := N_rows_of_dec) (sc := defScope s_rows_of_dec) (by decide +kernel)) (fun _ _ _ _ _ => pg_name (i := 14) sc_rows_of_dec.nd rfl (Or.inl rfl)) (fun _ _ _ _ _ => dts_nil) (fun _ _ _ _ _ => (de_if (dt_truth (de_bin o_and (dv 14) (dv 7))) (de_tup (da_cons (dv 14) (da_cons de_int (da_cons (de_bin o_add (dv 1) de_int) da_nil)))) (de_tup (da_cons (dv 14) (da_cons (de_neg de_int) (da_cons (de_bin o_add (dv 1) de_int) da_nil)))))) (sw_true rfl rfl rfl (by decide +kernel)))
    (dss_cons (ds_setLc sc_rows_of_dec.nd (di_rng1 (by rfl) T.n_range (da_cons (dv 2) da_nil)) (blkOk_by (N := N_rows_of_dec) (sc := defScope s_rows_of_dec) (by decide +kernel)) (fun _ _ _ _ _ => pg_name (i := 14) sc_rows_of_dec.nd rfl (Or.inl rfl)) (fun _ _ _ _ _ => dts_nil) (fun _ _ _ _ _ => (de_if (dt_truth (de_bin o_and (dv 14) (dv 7))) (de_tup (da_cons (de_bin o_sub (dv 14) (dv 7)) (da_cons (de_neg de_int) (da_cons (dv 8) da_nil)))) de_non)) (sw_true rfl rfl rfl (by decide +kernel)))
    (dss_one (ds_ret (de_bin o_add (de_bin o_add (de_bin o_add (de_bin o_add (de_bin o_add (dv 11) (dv 10)) (dv 12)) (dv 10)) (dv 13)) (dv 10)))))))))))))
abbrev N_UpStairddall_rows : List Str := ["self", "rows", "state", "row", "home"]
theorem sc_UpStairddall_rows : FnScope ["self", "rows", "state", "row", "home"] ["self"] (defScope s_UpStairddall_rows) := ⟨rfl, rfl, rfl, by decide +kernel, rfl, by decide +kernel, by decide +kernel⟩
def W_UpStairddall_rows (T : Tx K mg) : WF := wDef 1 5 ((wSeq (wSet 1 (wLst wNil))
    (wSeq (wFor (wEnumA (wCons (wMeth T.C_Counters "table" (W_Counters_table T) (wFld [T.C_UpStair] (wVar 0) "upper") wNil) wNil)) (gT 2 (gCn (gN 2) (gCn (gN 3) gNl))) (wSeq (wSet 4 (wOp2 gTimes (wC (.int 4)) (wVar 2)))
    (wSeq (wAugL 1 (wCall (W_rows_at_home T) (wCons (wVar 3) (wCons (wVar 4) (wCons (wFld [T.C_UpStair] (wVar 0) "_origin") wNil)))))
    (wIfS (wB (wOp2 (gIs false) (wVar 3) (wC .non))) (wAugL 1 (wOp2 gTimesL (wLst (wCons (wC .non) wNil)) (wOp2 gTimes (wC (.int 6)) (wFld [T.C_UpStair] (wVar 0) "_origin")))) (wIfS (wB (wOp2 (gEq false) (wOp2 gIx (wVar 3) (wC (.int 0))) (wC (.str "inc")))) (wAugL 1 (wCall (W_rows_of_inc T) (wCons (wVar 3) (wCons (wVar 4) (wCons (wFld [T.C_UpStair] (wVar 0) "_origin") wNil))))) (wAugL 1 (wCall (W_rows_of_dec T) (wCons (wVar 3) (wCons (wVar 4) (wCons (wFld [T.C_UpStair] (wVar 0) "_origin") wNil))))))))))
    (wRet (wVar 1)))))
theorem ok_UpStairddall_rows (T : Tx K mg) : FnD P w K mg base 2 T.a_UpStairddall_rows T.d_UpStairddall_rows ["self"] (W_UpStairddall_rows T) := fnD_of T.F_UpStairddall_rows sc_UpStairddall_rows (fun cdv A outer s H E hr => (dss_cons (ds_set (i := 1) sc_UpStairddall_rows.nd (de_lst da_nil))
    (dss_cons (ds_for (di_enumA (by rfl) T.n_enumerate (da_cons (de_meth0 (de_fld (dv 0) (ClsD.one T.cl_UpStair T.na_UpStair_upper)) T.cl_Counters T.me_Counters_table (ok_Counters_table T) wDef_ar (hr.mono (by decide)) T.b_Counters_table) da_nil)) (dg_tup (dgs_cons (dg_name (i := 2) sc_UpStairddall_rows.nd) (dgs_cons (dg_name (i := 3) sc_UpStairddall_rows.nd) dgs_nil))) (dss_cons (ds_set (i := 4) sc_UpStairddall_rows.nd (de_bin o_times (de_gint T.k_STATES_FOR_EACH_upstair) (dv 2)))
    (dss_cons (ds_addL (i := 1) sc_UpStairddall_rows.nd (de_call (ok_rows_at_home T) wDef_ar (hr.mono (by decide)) rfl T.m_rows_at_home T.F_rows_at_home.kp T.b_rows_at_home (da_cons (dv 3) (da_cons (dv 4) (da_cons (de_fld (dv 0) (ClsD.one T.cl_UpStair T.na_UpStair__origin)) da_nil)))))
    (dss_one (ds_if (dt_cmp o_is (dv 3) de_non) (dss_one (ds_addL (i := 1) sc_UpStairddall_rows.nd (de_bin o_timesL (de_lst (da_cons de_non da_nil)) (de_bin o_times de_int (de_fld (dv 0) (ClsD.one T.cl_UpStair T.na_UpStair__origin)))))) (dss_one (ds_if (dt_cmp (o_eq hr.units) (de_ix o_ix (dv 3) de_int) de_str) (dss_one (ds_addL (i := 1) sc_UpStairddall_rows.nd (de_call (ok_rows_of_inc T) wDef_ar (hr.mono (by decide)) rfl T.m_rows_of_inc T.F_rows_of_inc.kp T.b_rows_of_inc (da_cons (dv 3) (da_cons (dv 4) (da_cons (de_fld (dv 0) (ClsD.one T.cl_UpStair T.na_UpStair__origin)) da_nil)))))) (dss_one (ds_addL (i := 1) sc_UpStairddall_rows.nd (de_call (ok_rows_of_dec T) wDef_ar (hr.mono (by decide)) rfl T.m_rows_of_dec T.F_rows_of_dec.kp T.b_rows_of_dec (da_cons (dv 3) (da_cons (dv 4) (da_cons (de_fld (dv 0) (ClsD.one T.cl_UpStair T.na_UpStair__origin)) da_nil)))))))))))))
    (dss_one (ds_ret (dv 1))))))
abbrev N_UpStairdd_initdd : List Str := ["self", "upper"]
theorem sc_UpStairdd_initdd : FnScope ["self", "upper"] ["self", "upper"] (defScope s_UpStairdd_initdd) := ⟨rfl, rfl, rfl, by decide +kernel, rfl, by decide +kernel, by decide +kernel⟩
def W_UpStairdd_initdd (T : Tx K mg) : WF := wDef 2 2 ((wSeq (wIfS (wB (wOp2 gGt (wFld [T.C_Counters] (wVar 1) "count") (wC (.int 3)))) (wRaise T.X_BadMachine) wNext)
    (wSeq (wIfS (wB (wOp2 gGt (wFld [T.C_Counters] (wVar 1) "states") (wC (.int 1000)))) (wRaise T.X_BadMachine) wNext)
    (wSeq (wFldS [T.C_UpStair] (wVar 0) (wVar 1) "upper")
    (wSeq (wFldS [T.C_UpStair] (wVar 0) (wOp2 gShl (wC (.int 1)) (wFld [T.C_Counters] (wVar 1) "count")) "_origin")
    (wFldS [T.C_UpStair] (wVar 0) (wMake T.C_Tape (W_Tapedd_initdd T) (wCons (wOp2 gTimes (wC (.int 2)) (wFld [T.C_UpStair] (wVar 0) "_origin")) (wCons (wOp2 gTimes (wC (.int 4)) (wFld [T.C_Counters] (wVar 1) "states")) (wCons (wMeth T.C_UpStair "_all_rows" (W_UpStairddall_rows T) (wVar 0) wNil) wNil)))) "lower"))))))
theorem ok_UpStairdd_initdd (T : Tx K mg) : FnD P w K mg base 6 T.a_UpStairdd_initdd T.d_UpStairdd_initdd ["self", "upper"] (W_UpStairdd_initdd T) := fnD_of T.F_UpStairdd_initdd sc_UpStairdd_initdd (fun cdv A outer s H E hr => (dss_cons (ds_if (dt_cmp o_gt (de_fld (dv 1) (ClsD.one T.cl_Counters T.na_Counters_count)) (de_gint T.k_MOST_UPPER_COUNTERS)) (dss_one (ds_raise PySem.F.excBase_ValueError T.xq_BadMachine T.xg_BadMachine T.xk_BadMachine (raises_own T.xb_BadMachine T.xt_BadMachine) rfl)) dss_nil)
    (dss_cons (ds_if (dt_cmp o_gt (de_fld (dv 1) (ClsD.one T.cl_Counters T.na_Counters_states)) (de_gint T.k_MOST_UPPER_STATES_upstair)) (dss_one (ds_raise PySem.F.excBase_ValueError T.xq_BadMachine T.xg_BadMachine T.xk_BadMachine (raises_own T.xb_BadMachine T.xt_BadMachine) rfl)) dss_nil)
    (dss_cons (ds_fld (dv 0) (dv 1) (ClsD.one T.cl_UpStair T.na_UpStair_upper))
    (dss_cons (ds_fld (dv 0) (de_bin o_shl de_int (de_fld (dv 1) (ClsD.one T.cl_Counters T.na_Counters_count))) (ClsD.one T.cl_UpStair T.na_UpStair__origin))
    (dss_one (ds_fld (dv 0) (de_make T.mk_Tape (ok_Tapedd_initdd T) wDef_ar (hr.mono (by decide)) rfl T.mc_Tape T.b_Tapedd_initdd (da_cons (de_bin o_times de_int (de_fld (dv 0) (ClsD.one T.cl_UpStair T.na_UpStair__origin))) (da_cons (de_bin o_times (de_gint T.k_STATES_FOR_EACH_upstair) (de_fld (dv 1) (ClsD.one T.cl_Counters T.na_Counters_states))) (da_cons (de_meth0 (dv 0) T.cl_UpStair T.me_UpStairddall_rows (ok_UpStairddall_rows T) wDef_ar (hr.mono (by decide)) T.b_UpStairddall_rows) da_nil)))) (ClsD.one T.cl_UpStair T.na_UpStair_lower))))))))
abbrev N_law_trimmed : List Str := ["bits", "end", "k"]
theorem sc_law_trimmed : FnScope ["bits", "end", "k"] ["bits"] (defScope s_law_trimmed) := ⟨rfl, rfl, rfl, by decide +kernel, rfl, by decide +kernel, by decide +kernel⟩
def W_law_trimmed (T : Tx K mg) : WF := wDef 1 3 ((wSeq (wSet 1 (wC (.int 0)))
    (wSeq (wFor (wRng1 (wCons (wCB gLen (wCons (wVar 0) wNil)) wNil)) (gN 2) (wIfS (wB (wOp2 (gEq true) (wOp2 gIx (wVar 0) (wVar 2)) (wC (.int 0)))) (wSet 1 (wOp2 gAdd (wVar 2) (wC (.int 1)))) wNext))
    (wRet (wCB gTupC (wCons (wSl (wVar 0) wNoP (wPart (wVar 1))) wNil))))))
theorem ok_law_trimmed (T : Tx K mg) : FnD P w K mg base 1 T.a_law_trimmed T.d_law_trimmed ["bits"] (W_law_trimmed T) := fnD_of T.F_law_trimmed sc_law_trimmed (fun cdv A outer s H E hr => (dss_cons (ds_set (i := 1) sc_law_trimmed.nd de_int)
    (dss_cons (ds_for (di_rng1 (by rfl) T.n_range (da_cons (de_callB c_len (by rfl) T.n_len PySem.boot_len (da_cons (dv 0) da_nil)) da_nil)) (dg_name (i := 2) sc_law_trimmed.nd) (dss_one (ds_if (dt_cmp (o_ne hr.units) (de_ix o_ix (dv 0) (dv 2)) de_int) (dss_one (ds_set (i := 1) sc_law_trimmed.nd (de_bin o_add (dv 2) de_int))) dss_nil)))
    (dss_one (ds_ret (de_callTy c_tuple (by rfl) T.n_tuple (by decide +kernel) (da_cons (de_sl (dv 0) do_none (do_some (dv 1))) da_nil)))))))
abbrev N_law_bits : List Str := ["draw", "most", "bits", "k"]
theorem sc_law_bits : FnScope ["draw", "most", "bits", "k"] ["draw", "most"] (defScope s_law_bits) := ⟨rfl, rfl, rfl, by decide +kernel, rfl, by decide +kernel, by decide +kernel⟩
def W_law_bits (T : Tx K mg) : WF := wDef 2 4 ((wSeq (wSet 2 (wLst wNil))
    (wSeq (wFor (wRng1 (wCons (wOp2 gMod (wVar 0) (wOp2 gAdd (wVar 1) (wC (.int 1)))) wNil)) (gN 3) (wExpr (wAppend (wVar 2) (wCons (wOp2 gMod (wOp2 gFdiv (wOp2 gFdiv (wVar 0) (wOp2 gAdd (wVar 1) (wC (.int 1)))) (wOp2 gAdd (wVar 3) (wC (.int 1)))) (wC (.int 2))) wNil))))
    (wRet (wCall (W_law_trimmed T) (wCons (wVar 2) wNil))))))
theorem ok_law_bits (T : Tx K mg) : FnD P w K mg base 2 T.a_law_bits T.d_law_bits ["draw", "most"] (W_law_bits T) := fnD_of T.F_law_bits sc_law_bits (fun cdv A outer s H E hr => (dss_cons (ds_set (i := 2) sc_law_bits.nd (de_lst da_nil))
    (dss_cons (ds_for (di_rng1 (by rfl) T.n_range (da_cons (de_bin o_mod (dv 0) (de_bin o_add (dv 1) de_int)) da_nil)) (dg_name (i := 3) sc_law_bits.nd) (dss_one (ds_expr (de_append (dv 2) (da_cons (de_bin o_mod (de_bin o_div (de_bin o_div (dv 0) (de_bin o_add (dv 1) de_int)) (de_bin o_add (dv 3) de_int)) de_int) da_nil)))))
    (dss_one (ds_ret (de_call (ok_law_trimmed T) wDef_ar (hr.mono (by decide)) rfl T.m_law_trimmed T.F_law_trimmed.kp T.b_law_trimmed (da_cons (dv 2) da_nil)))))))
abbrev N_value : List Str := ["stack", "number", "bit"]
theorem sc_value : FnScope ["stack", "number", "bit"] ["stack"] (defScope s_value) := ⟨rfl, rfl, rfl, by decide +kernel, rfl, by decide +kernel, by decide +kernel⟩
def W_value (T : Tx K mg) : WF := wDef 1 3 ((wSeq (wSet 1 (wC (.int 0)))
    (wSeq (wFor (wItems (wRev (wVar 0))) (gN 2) (wSet 1 (wOp2 gAdd (wOp2 gTimes (wC (.int 2)) (wVar 1)) (wVar 2))))
    (wRet (wVar 1)))))
theorem ok_value (T : Tx K mg) : FnD P w K mg base 1 T.a_value T.d_value ["stack"] (W_value T) := fnD_of T.F_value sc_value (fun cdv A outer s H E hr => (dss_cons (ds_set (i := 1) sc_value.nd de_int)
    (dss_cons (ds_for (di_items (de_rev (dv 0))) (dg_name (i := 2) sc_value.nd) (dss_one (ds_set (i := 1) sc_value.nd (de_bin o_add (de_bin o_times de_int (dv 1)) (dv 2)))))
    (dss_one (ds_ret (dv 1))))))
abbrev N_CounterStair_down : List Str := ["self", "configuration", "state", "first", "second"]
theorem sc_CounterStair_down : FnScope ["self", "configuration", "state", "first", "second"] ["self", "configuration"] (defScope s_CounterStair_down) := ⟨rfl, rfl, rfl, by decide +kernel, rfl, by decide +kernel, by decide +kernel⟩
def W_CounterStair_down (T : Tx K mg) : WF := wDef 2 5 ((wSeq (wAsg (wVar 1) (gT 3 (gCn (gN 2) (gCn (gN 3) (gCn (gN 4) gNl)))))
    (wRet (wTup (wCons (wOp2 gTimes (wC (.int 7)) (wVar 2)) (wCons (wTup (wCons (wCall (W_value T) (wCons (wVar 3) wNil)) (wCons (wCall (W_value T) (wCons (wVar 4) wNil)) (wCons (wC (.int 0)) wNil)))) wNil))))))
theorem ok_CounterStair_down (T : Tx K mg) : FnD P w K mg base 2 T.a_CounterStair_down T.d_CounterStair_down ["self", "configuration"] (W_CounterStair_down T) := fnD_of T.F_CounterStair_down sc_CounterStair_down (fun cdv A outer s H E hr => (dss_cons (ds_asg (dv 1) (dg_tup (dgs_cons (dg_name (i := 2) sc_CounterStair_down.nd) (dgs_cons (dg_name (i := 3) sc_CounterStair_down.nd) (dgs_cons (dg_name (i := 4) sc_CounterStair_down.nd) dgs_nil)))))
    (dss_one (ds_ret (de_tup (da_cons (de_bin o_times (de_gint T.k_STATES_FOR_EACH_counterstair) (dv 2)) (da_cons (de_tup (da_cons (de_call (ok_value T) wDef_ar (hr.mono (by decide)) rfl T.m_value T.F_value.kp T.b_value (da_cons (dv 3) da_nil)) (da_cons (de_call (ok_value T) wDef_ar (hr.mono (by decide)) rfl T.m_value T.F_value.kp T.b_value (da_cons (dv 4) da_nil)) (da_cons de_int da_nil)))) da_nil)))))))
abbrev N_trimmed : List Str := ["marks", "end"]
theorem sc_trimmed : FnScope ["marks", "end"] ["marks"] (defScope s_trimmed) := ⟨rfl, rfl, rfl, by decide +kernel, rfl, by decide +kernel, by decide +kernel⟩
def W_trimmed (T : Tx K mg) : WF := wDef 1 2 ((wSeq (wSet 1 (wCB gLen (wCons (wVar 0) wNil)))
    (wSeq (wWhile (wAnd (wB (wOp2 gGt (wVar 1) (wC (.int 0)))) (wB (wOp2 (gEq false) (wOp2 gIx (wVar 0) (wOp2 gMinus (wVar 1) (wC (.int 1)))) (wC (.int 0))))) (wAugI 1 (fun a b => a - b) (wC (.int 1))))
    (wRet (wCB gTupC (wCons (wSl (wVar 0) wNoP (wPart (wVar 1))) wNil))))))
theorem ok_trimmed (T : Tx K mg) : FnD P w K mg base 1 T.a_trimmed T.d_trimmed ["marks"] (W_trimmed T) := fnD_of T.F_trimmed sc_trimmed (fun cdv A outer s H E hr => (dss_cons (ds_set (i := 1) sc_trimmed.nd (de_callB c_len (by rfl) T.n_len PySem.boot_len (da_cons (dv 0) da_nil)))
    (dss_cons (ds_while (dt_w (dw_and (dt_cmp o_gt (dv 1) de_int) (dw_and1 (dt_cmp (o_eq hr.units) (de_ix o_ix (dv 0) (de_bin o_sub (dv 1) de_int)) de_int)))) (dss_one (ds_subI (i := 1) sc_trimmed.nd de_int)))
    (dss_one (ds_ret (de_callTy c_tuple (by rfl) T.n_tuple (by decide +kernel) (da_cons (de_sl (dv 0) do_none (do_some (dv 1))) da_nil)))))))
abbrev N_StackStair_down : List Str := ["self", "configuration", "state", "left", "mark", "right"]
theorem sc_StackStair_down : FnScope ["self", "configuration", "state", "left", "mark", "right"] ["self", "configuration"] (defScope s_StackStair_down) := ⟨rfl, rfl, rfl, by decide +kernel, rfl, by decide +kernel, by decide +kernel⟩
def W_StackStair_down (T : Tx K mg) : WF := wDef 2 6 ((wSeq (wAsg (wVar 1) (gT 4 (gCn (gN 2) (gCn (gN 3) (gCn (gN 4) (gCn (gN 5) gNl))))))
    (wRet (wTup (wCons (wOp2 gTimes (wC (.int 9)) (wVar 2)) (wCons (wVar 3) (wCons (wCall (W_trimmed T) (wCons (wOp2 gAdd (wTup (wCons (wVar 4) wNil)) (wVar 5)) wNil)) wNil)))))))
theorem ok_StackStair_down (T : Tx K mg) : FnD P w K mg base 2 T.a_StackStair_down T.d_StackStair_down ["self", "configuration"] (W_StackStair_down T) := fnD_of T.F_StackStair_down sc_StackStair_down (fun cdv A outer s H E hr => (dss_cons (ds_asg (dv 1) (dg_tup (dgs_cons (dg_name (i := 2) sc_StackStair_down.nd) (dgs_cons (dg_name (i := 3) sc_StackStair_down.nd) (dgs_cons (dg_name (i := 4) sc_StackStair_down.nd) (dgs_cons (dg_name (i := 5) sc_StackStair_down.nd) dgs_nil))))))
    (dss_one (ds_ret (de_tup (da_cons (de_bin o_times (de_gint T.k_STATES_FOR_EACH_stackstair) (dv 2)) (da_cons (dv 3) (da_cons (de_call (ok_trimmed T) wDef_ar (hr.mono (by decide)) rfl T.m_trimmed T.F_trimmed.kp T.b_trimmed (da_cons (de_bin o_add (de_tup (da_cons (dv 4) da_nil)) (dv 5)) da_nil)) da_nil))))))))
abbrev N_UpStair_down : List Str := ["self", "configuration", "state", "counters", "right", "place", "counter", "number"]
theorem sc_UpStair_down : FnScope ["self", "configuration", "state", "counters", "right", "place", "counter", "number"] ["self", "configuration"] (defScope s_UpStair_down) := ⟨rfl, rfl, rfl, by decide +kernel, rfl, by decide +kernel, by decide +kernel⟩
def W_UpStair_down (T : Tx K mg) : WF := wDef 2 8 ((wSeq (wAsg (wVar 1) (gT 2 (gCn (gN 2) (gCn (gN 3) gNl))))
    (wSeq (wSet 4 (wLst wNil))
    (wSeq (wFor (wRng2 (wCons (wC (.int 1)) (wCons (wOp2 gAdd (wCB gMaxT (wCons (wVar 3) wNil)) (wC (.int 1))) wNil))) (gN 5) (wExpr (wAppend (wVar 4) (wCons (wCB gSum (wCons (wLcP (wEnumA (wCons (wVar 3) wNil)) 6 7 (wB (wOp2 gGe (wVar 7) (wVar 5))) (wOp2 gShl (wC (.int 1)) (wVar 6))) wNil)) wNil))))
    (wRet (wTup (wCons (wOp2 gTimes (wC (.int 4)) (wVar 2)) (wCons (wTup wNil) (wCons (wFld [T.C_UpStair] (wVar 0) "_origin") (wCons (wCB gTupC (wCons (wVar 4) wNil)) wNil))))))))))
theorem ok_UpStair_down (T : Tx K mg) : FnD P w K mg base 1 T.a_UpStair_down T.d_UpStair_down ["self", "configuration"] (W_UpStair_down T) := fnD_of T.F_UpStair_down sc_UpStair_down (fun cdv A outer s H E hr => (dss_cons (ds_asg (dv 1) (dg_tup (dgs_cons (dg_name (i := 2) sc_UpStair_down.nd) (dgs_cons (dg_name (i := 3) sc_UpStair_down.nd) dgs_nil))))
    (dss_cons (ds_set (i := 4) sc_UpStair_down.nd (de_lst da_nil))
    (dss_cons (ds_for (di_rng2 (by rfl) T.n_range (da_cons de_int (da_cons (de_bin o_add (de_callB (c_maxT hr.units) (by rfl) T.n_max (by decide +kernel) (da_cons (dv 3) da_nil)) de_int) da_nil))) (dg_name (i := 5) sc_UpStair_down.nd) (dss_one (ds_expr (de_append (dv 4) (da_cons (de_callB c_sum (by rfl) T.n_sum (by decide +kernel) (da_cons (de_lcP (i := 6) (j := 7) sc_UpStair_down.nd (di_enumA (by rfl) T.n_enumerate (da_cons (dv 3) da_nil)) (blkOk_by (N := N_UpStair_down) (sc := defScope s_UpStair_down) (by decide +kernel)) (by decide) (fun _ _ _ _ _ => pg_tup rfl (pgs_cons (pg_name (i := 6) sc_UpStair_down.nd rfl (Or.inl rfl)) (pgs_cons (pg_name (i := 7) sc_UpStair_down.nd rfl (Or.inl rfl)) pgs_nil))) (fun _ _ _ _ _ => (dts_one (dt_cmp o_ge (dv 7) (dv 5)))) (fun _ _ _ _ _ => (de_bin o_shl de_int (dv 6)))) da_nil)) da_nil)))))
    (dss_one (ds_ret (de_tup (da_cons (de_bin o_times (de_gint T.k_STATES_FOR_EACH_upstair) (dv 2)) (da_cons (de_tup da_nil) (da_cons (de_fld (dv 0) (ClsD.one T.cl_UpStair T.na_UpStair__origin)) (da_cons (de_callTy c_tuple (by rfl) T.n_tuple (by decide +kernel) (da_cons (dv 4) da_nil)) da_nil)))))))))))
abbrev N_law_down : List Str := ["stairs", "here", "stair"]
theorem sc_law_down : FnScope ["stairs", "here", "stair"] ["stairs", "here"] (defScope s_law_down) := ⟨rfl, rfl, rfl, by decide +kernel, rfl, by decide +kernel, by decide +kernel⟩
def W_law_down (T : Tx K mg) : WF := wDef 2 3 ((wSeq (wFor (wItems (wVar 0)) (gN 2) (wSet 1 (wAlt (wMeth T.C_CounterStair "down" (W_CounterStair_down T) (wVar 2) (wCons (wVar 1) wNil)) (wAlt (wMeth T.C_StackStair "down" (W_StackStair_down T) (wVar 2) (wCons (wVar 1) wNil)) (wMeth T.C_UpStair "down" (W_UpStair_down T) (wVar 2) (wCons (wVar 1) wNil))))))
    (wRet (wVar 1))))
theorem ok_law_down (T : Tx K mg) : FnD P w K mg base 3 T.a_law_down T.d_law_down ["stairs", "here"] (W_law_down T) := fnD_of T.F_law_down sc_law_down (fun cdv A outer s H E hr => (dss_cons (ds_for (di_items (dv 0)) (dg_name (i := 2) sc_law_down.nd) (dss_one (ds_set (i := 1) sc_law_down.nd (de_alt (de_meth (dv 2) T.cl_CounterStair T.me_CounterStair_down (ok_CounterStair_down T) wDef_ar (hr.mono (by decide)) T.b_CounterStair_down (da_cons (dv 1) da_nil)) (de_alt (de_meth (dv 2) T.cl_StackStair T.me_StackStair_down (ok_StackStair_down T) wDef_ar (hr.mono (by decide)) T.b_StackStair_down (da_cons (dv 1) da_nil)) (de_meth (dv 2) T.cl_UpStair T.me_UpStair_down (ok_UpStair_down T) wDef_ar (hr.mono (by decide)) T.b_UpStair_down (da_cons (dv 1) da_nil)))))))
    (dss_one (ds_ret (dv 1)))))
abbrev N_stack_of : List Str := ["number", "at"]
theorem sc_stack_of : FnScope ["number", "at"] ["number"] (defScope s_stack_of) := ⟨rfl, rfl, rfl, by decide +kernel, rfl, by decide +kernel, by decide +kernel⟩
def W_stack_of (T : Tx K mg) : WF := wDef 1 2 ((wRet (wCB gTupC (wCons (wLc (wRng1 (wCons (wBits (wVar 0)) wNil)) 1 wYes (wOp2 gBand (wOp2 gShr (wVar 0) (wVar 1)) (wC (.int 1)))) wNil))))
theorem ok_stack_of (T : Tx K mg) : FnD P w K mg base 1 T.a_stack_of T.d_stack_of ["number"] (W_stack_of T) := fnD_of T.F_stack_of sc_stack_of (fun cdv A outer s H E hr => (dss_one (ds_ret (de_callTy c_tuple (by rfl) T.n_tuple (by decide +kernel) (da_cons (de_lc sc_stack_of.nd (di_rng1 (by rfl) T.n_range (da_cons (de_bits (dv 0)) da_nil)) (blkOk_by (N := N_stack_of) (sc := defScope s_stack_of) (by decide +kernel)) (fun _ _ _ _ _ => pg_name (i := 1) sc_stack_of.nd rfl (Or.inl rfl)) (fun _ _ _ _ _ => dts_nil) (fun _ _ _ _ _ => (de_bin o_and (de_bin o_shr (dv 0) (dv 1)) de_int))) da_nil)))))
abbrev N_CounterStair_up : List Str := ["self", "configuration", "state", "first", "second", "spare"]
theorem sc_CounterStair_up : FnScope ["self", "configuration", "state", "first", "second", "spare"] ["self", "configuration"] (defScope s_CounterStair_up) := ⟨rfl, rfl, rfl, by decide +kernel, rfl, by decide +kernel, by decide +kernel⟩
def W_CounterStair_up (T : Tx K mg) : WF := wDef 2 6 ((wSeq (wAsg (wVar 1) (gT 2 (gCn (gN 2) (gCn (gT 3 (gCn (gN 3) (gCn (gN 4) (gCn (gN 5) gNl)))) gNl))))
    (wSeq (wIfS (wOr (wB (wOp2 (gEq true) (wOp2 gMod (wVar 2) (wC (.int 7))) (wC (.int 0)))) (wB (wOp2 (gEq true) (wVar 5) (wC (.int 0))))) (wRet (wC .non)) wNext)
    (wRet (wTup (wCons (wOp2 gFdiv (wVar 2) (wC (.int 7))) (wCons (wCall (W_stack_of T) (wCons (wVar 3) wNil)) (wCons (wCall (W_stack_of T) (wCons (wVar 4) wNil)) wNil))))))))
theorem ok_CounterStair_up (T : Tx K mg) : FnD P w K mg base 2 T.a_CounterStair_up T.d_CounterStair_up ["self", "configuration"] (W_CounterStair_up T) := fnD_of T.F_CounterStair_up sc_CounterStair_up (fun cdv A outer s H E hr => (dss_cons (ds_asg (dv 1) (dg_tup (dgs_cons (dg_name (i := 2) sc_CounterStair_up.nd) (dgs_cons (dg_tup (dgs_cons (dg_name (i := 3) sc_CounterStair_up.nd) (dgs_cons (dg_name (i := 4) sc_CounterStair_up.nd) (dgs_cons (dg_name (i := 5) sc_CounterStair_up.nd) dgs_nil)))) dgs_nil))))
    (dss_cons (ds_if (dt_w (dw_or (dt_cmp (o_ne hr.units) (de_bin o_mod (dv 2) (de_gint T.k_STATES_FOR_EACH_counterstair)) de_int) (dw_or1 (dt_cmp (o_ne hr.units) (dv 5) de_int)))) (dss_one (ds_ret de_non)) dss_nil)
    (dss_one (ds_ret (de_tup (da_cons (de_bin o_div (dv 2) (de_gint T.k_STATES_FOR_EACH_counterstair)) (da_cons (de_call (ok_stack_of T) wDef_ar (hr.mono (by decide)) rfl T.m_stack_of T.F_stack_of.kp T.b_stack_of (da_cons (dv 3) da_nil)) (da_cons (de_call (ok_stack_of T) wDef_ar (hr.mono (by decide)) rfl T.m_stack_of T.F_stack_of.kp T.b_stack_of (da_cons (dv 4) da_nil)) da_nil)))))))))
abbrev N_StackStair_up : List Str := ["self", "configuration", "state", "left", "second", "mark"]
theorem sc_StackStair_up : FnScope ["self", "configuration", "state", "left", "second", "mark"] ["self", "configuration"] (defScope s_StackStair_up) := ⟨rfl, rfl, rfl, by decide +kernel, rfl, by decide +kernel, by decide +kernel⟩
def W_StackStair_up (T : Tx K mg) : WF := wDef 2 6 ((wSeq (wAsg (wVar 1) (gT 3 (gCn (gN 2) (gCn (gN 3) (gCn (gN 4) gNl)))))
    (wSeq (wIfS (wB (wOp2 (gEq true) (wOp2 gMod (wVar 2) (wC (.int 9))) (wC (.int 0)))) (wRet (wC .non)) wNext)
    (wSeq (wSet 5 (wIf (wTru (wVar 4)) (wOp2 gIx (wVar 4) (wC (.int 0))) (wC (.int 0))))
    (wRet (wTup (wCons (wOp2 gFdiv (wVar 2) (wC (.int 9))) (wCons (wVar 3) (wCons (wVar 5) (wCons (wSl (wVar 4) (wPart (wC (.int 1))) wNoP) wNil))))))))))
theorem ok_StackStair_up (T : Tx K mg) : FnD P w K mg base 1 T.a_StackStair_up T.d_StackStair_up ["self", "configuration"] (W_StackStair_up T) := fnD_of T.F_StackStair_up sc_StackStair_up (fun cdv A outer s H E hr => (dss_cons (ds_asg (dv 1) (dg_tup (dgs_cons (dg_name (i := 2) sc_StackStair_up.nd) (dgs_cons (dg_name (i := 3) sc_StackStair_up.nd) (dgs_cons (dg_name (i := 4) sc_StackStair_up.nd) dgs_nil)))))
    (dss_cons (ds_if (dt_cmp (o_ne hr.units) (de_bin o_mod (dv 2) (de_gint T.k_STATES_FOR_EACH_stackstair)) de_int) (dss_one (ds_ret de_non)) dss_nil)
    (dss_cons (ds_set (i := 5) sc_StackStair_up.nd (de_if (dt_truth (dv 4)) (de_ix o_ix (dv 4) de_int) de_int))
    (dss_one (ds_ret (de_tup (da_cons (de_bin o_div (dv 2) (de_gint T.k_STATES_FOR_EACH_stackstair)) (da_cons (dv 3) (da_cons (dv 5) (da_cons (de_sl (dv 4) (do_some de_int) do_none) da_nil)))))))))))
abbrev N_are_numbers : List Str := ["value", "low", "high", "item"]
theorem sc_are_numbers : FnScope ["value", "low", "high", "item"] ["value", "low", "high"] (defScope s_are_numbers) := ⟨rfl, rfl, rfl, by decide +kernel, rfl, by decide +kernel, by decide +kernel⟩
def W_are_numbers (T : Tx K mg) : WF := wDef 3 4 ((wSeq (wIfS (wNot (wB (wIsi (wVar 0) "tuple"))) (wRet (wC (.bl false))) wNext)
    (wRet (wCB (gAllL fun bs => bs.all id) (wCons (wLc (wItems (wVar 0)) 3 wYes (wCall (W_is_number T) (wCons (wVar 3) (wCons (wVar 1) (wCons (wVar 2) wNil))))) wNil)))))
theorem ok_are_numbers (T : Tx K mg) : FnD P w K mg base 3 T.a_are_numbers T.d_are_numbers ["value", "low", "high"] (W_are_numbers T) := fnD_of T.F_are_numbers sc_are_numbers (fun cdv A outer s H E hr => (dss_cons (ds_if (dt_not (dt_val (de_isi (by rfl) T.n_isinstance (by rfl) T.n_tuple (by decide +kernel) (dv 0)))) (dss_one (ds_ret de_bl)) dss_nil)
    (dss_one (ds_ret (de_callB c_all (by rfl) T.n_all (by decide +kernel) (da_cons (de_lc sc_are_numbers.nd (di_items (dv 0)) (blkOk_by (N := N_are_numbers) (sc := defScope s_are_numbers) (by decide +kernel)) (fun _ _ _ _ _ => pg_name (i := 3) sc_are_numbers.nd rfl (Or.inl rfl)) (fun _ _ _ _ _ => dts_nil) (fun _ _ _ _ _ => (de_call (ok_is_number T) wDef_ar (hr.mono (by decide)) rfl T.m_is_number T.F_is_number.kp T.b_is_number (da_cons (dv 3) (da_cons (dv 1) (da_cons (dv 2) da_nil)))))) da_nil))))))
abbrev N_Tapeddis_side : List Str := ["self", "value"]
theorem sc_Tapeddis_side : FnScope ["self", "value"] ["self", "value"] (defScope s_Tapeddis_side) := ⟨rfl, rfl, rfl, by decide +kernel, rfl, by decide +kernel, by decide +kernel⟩
def W_Tapeddis_side (T : Tx K mg) : WF := wDef 2 2 ((wSeq (wIfS (wNot (wTru (wCall (W_are_numbers T) (wCons (wVar 1) (wCons (wC (.int 0)) (wCons (wOp2 gMinus (wFld [T.C_Tape] (wVar 0) "marks") (wC (.int 1))) wNil)))))) (wRet (wC (.bl false))) wNext)
    (wRet (wOrV (wOp2 (gEq false) (wCB gLen (wCons (wVar 1) wNil)) (wC (.int 0))) (wOp2 (gEq true) (wOp2 gIx (wVar 1) (wNeg (wC (.int 1)))) (wC (.int 0)))))))
theorem ok_Tapeddis_side (T : Tx K mg) : FnD P w K mg base 4 T.a_Tapeddis_side T.d_Tapeddis_side ["self", "value"] (W_Tapeddis_side T) := fnD_of T.F_Tapeddis_side sc_Tapeddis_side (fun cdv A outer s H E hr => (dss_cons (ds_if (dt_not (dt_truth (de_call (ok_are_numbers T) wDef_ar (hr.mono (by decide)) rfl T.m_are_numbers T.F_are_numbers.kp T.b_are_numbers (da_cons (dv 1) (da_cons de_int (da_cons (de_bin o_sub (de_fld (dv 0) (ClsD.one T.cl_Tape T.na_Tape_marks)) de_int) da_nil)))))) (dss_one (ds_ret de_bl)) dss_nil)
    (dss_one (ds_ret (de_or (de_cmp (o_eq hr.units) (de_callB c_len (by rfl) T.n_len PySem.boot_len (da_cons (dv 1) da_nil)) de_int) (de_one (de_cmp (o_ne hr.units) (de_ix o_ix (dv 1) (de_neg de_int)) de_int)))))))
abbrev N_Tape_is_configuration : List Str := ["self", "value", "state", "left", "mark", "right"]
theorem sc_Tape_is_configuration : FnScope ["self", "value", "state", "left", "mark", "right"] ["self", "value"] (defScope s_Tape_is_configuration) := ⟨rfl, rfl, rfl, by decide +kernel, rfl, by decide +kernel, by decide +kernel⟩
def W_Tape_is_configuration (T : Tx K mg) : WF := wDef 2 6 ((wSeq (wIfS (wOr (wNot (wB (wIsi (wVar 1) "tuple"))) (wB (wOp2 (gEq true) (wCB gLen (wCons (wVar 1) wNil)) (wC (.int 4))))) (wRet (wC (.bl false))) wNext)
    (wSeq (wAsg (wVar 1) (gT 4 (gCn (gN 2) (gCn (gN 3) (gCn (gN 4) (gCn (gN 5) gNl))))))
    (wSeq (wIfS (wOr (wNot (wTru (wCall (W_is_number T) (wCons (wVar 2) (wCons (wC (.int 0)) (wCons (wOp2 gMinus (wFld [T.C_Tape] (wVar 0) "states") (wC (.int 1))) wNil)))))) (wNot (wTru (wCall (W_is_number T) (wCons (wVar 4) (wCons (wC (.int 0)) (wCons (wOp2 gMinus (wFld [T.C_Tape] (wVar 0) "marks") (wC (.int 1))) wNil))))))) (wRet (wC (.bl false))) wNext)
    (wRet (wAndV (wMeth T.C_Tape "_is_side" (W_Tapeddis_side T) (wVar 0) (wCons (wVar 3) wNil)) (wMeth T.C_Tape "_is_side" (W_Tapeddis_side T) (wVar 0) (wCons (wVar 5) wNil))))))))
theorem ok_Tape_is_configuration (T : Tx K mg) : FnD P w K mg base 5 T.a_Tape_is_configuration T.d_Tape_is_configuration ["self", "value"] (W_Tape_is_configuration T) := fnD_of T.F_Tape_is_configuration sc_Tape_is_configuration (fun cdv A outer s H E hr => (dss_cons (ds_if (dt_w (dw_or (dt_not (dt_val (de_isi (by rfl) T.n_isinstance (by rfl) T.n_tuple (by decide +kernel) (dv 1)))) (dw_or1 (dt_cmp (o_ne hr.units) (de_callB c_len (by rfl) T.n_len PySem.boot_len (da_cons (dv 1) da_nil)) de_int)))) (dss_one (ds_ret de_bl)) dss_nil)
    (dss_cons (ds_asg (dv 1) (dg_tup (dgs_cons (dg_name (i := 2) sc_Tape_is_configuration.nd) (dgs_cons (dg_name (i := 3) sc_Tape_is_configuration.nd) (dgs_cons (dg_name (i := 4) sc_Tape_is_configuration.nd) (dgs_cons (dg_name (i := 5) sc_Tape_is_configuration.nd) dgs_nil))))))
    (dss_cons (ds_if (dt_w (dw_or (dt_not (dt_truth (de_call (ok_is_number T) wDef_ar (hr.mono (by decide)) rfl T.m_is_number T.F_is_number.kp T.b_is_number (da_cons (dv 2) (da_cons de_int (da_cons (de_bin o_sub (de_fld (dv 0) (ClsD.one T.cl_Tape T.na_Tape_states)) de_int) da_nil)))))) (dw_or1 (dt_not (dt_truth (de_call (ok_is_number T) wDef_ar (hr.mono (by decide)) rfl T.m_is_number T.F_is_number.kp T.b_is_number (da_cons (dv 4) (da_cons de_int (da_cons (de_bin o_sub (de_fld (dv 0) (ClsD.one T.cl_Tape T.na_Tape_marks)) de_int) da_nil))))))))) (dss_one (ds_ret de_bl)) dss_nil)
    (dss_one (ds_ret (de_and (de_meth (dv 0) T.cl_Tape T.me_Tapeddis_side (ok_Tapeddis_side T) wDef_ar (hr.mono (by decide)) T.b_Tapeddis_side (da_cons (dv 3) da_nil)) (de_one (de_meth (dv 0) T.cl_Tape T.me_Tapeddis_side (ok_Tapeddis_side T) wDef_ar (hr.mono (by decide)) T.b_Tapeddis_side (da_cons (dv 5) da_nil))))))))))
abbrev N_UpStair_up : List Str := ["self", "configuration", "state", "left", "mark", "right", "counters", "counter", "found", "place"]
theorem sc_UpStair_up : FnScope ["self", "configuration", "state", "left", "mark", "right", "counters", "counter", "found", "place"] ["self", "configuration"] (defScope s_UpStair_up) := ⟨rfl, rfl, rfl, by decide +kernel, rfl, by decide +kernel, by decide +kernel⟩
def W_UpStair_up (T : Tx K mg) : WF := wDef 2 10 ((wSeq (wAsg (wVar 1) (gT 4 (gCn (gN 2) (gCn (gN 3) (gCn (gN 4) (gCn (gN 5) gNl))))))
    (wSeq (wIfS (wOr (wB (wOp2 (gEq true) (wVar 3) (wTup wNil))) (wOr (wB (wOp2 (gEq true) (wVar 4) (wFld [T.C_UpStair] (wVar 0) "_origin"))) (wNot (wTru (wMeth T.C_Tape "is_configuration" (W_Tape_is_configuration T) (wFld [T.C_UpStair] (wVar 0) "lower") (wCons (wVar 1) wNil)))))) (wRet (wC .non)) wNext)
    (wSeq (wSet 6 (wLst wNil))
    (wSeq (wFor (wRng1 (wCons (wFld [T.C_Counters] (wFld [T.C_UpStair] (wVar 0) "upper") "count") wNil)) (gN 7) (wExpr (wAppend (wVar 6) (wCons (wCB gSum (wCons (wLc (wItems (wVar 5)) 9 wYes (wOp2 gBand (wOp2 gShr (wVar 9) (wVar 7)) (wC (.int 1)))) wNil)) wNil))))
    (wSeq (wSet 8 (wTup (wCons (wOp2 gFdiv (wVar 2) (wC (.int 4))) (wCons (wCB gTupC (wCons (wVar 6) wNil)) wNil))))
    (wRet (wIf (wB (wOp2 (gEq false) (wMeth T.C_UpStair "down" (W_UpStair_down T) (wVar 0) (wCons (wVar 8) wNil)) (wVar 1))) (wVar 8) (wC .non)))))))))
theorem ok_UpStair_up (T : Tx K mg) : FnD P w K mg base 6 T.a_UpStair_up T.d_UpStair_up ["self", "configuration"] (W_UpStair_up T) := fnD_of T.F_UpStair_up sc_UpStair_up (fun cdv A outer s H E hr => (dss_cons (ds_asg (dv 1) (dg_tup (dgs_cons (dg_name (i := 2) sc_UpStair_up.nd) (dgs_cons (dg_name (i := 3) sc_UpStair_up.nd) (dgs_cons (dg_name (i := 4) sc_UpStair_up.nd) (dgs_cons (dg_name (i := 5) sc_UpStair_up.nd) dgs_nil))))))
    (dss_cons (ds_if (dt_w (dw_or (dt_cmp (o_ne hr.units) (dv 3) (de_tup da_nil)) (dw_or (dt_cmp (o_ne hr.units) (dv 4) (de_fld (dv 0) (ClsD.one T.cl_UpStair T.na_UpStair__origin))) (dw_or1 (dt_not (dt_truth (de_meth (de_fld (dv 0) (ClsD.one T.cl_UpStair T.na_UpStair_lower)) T.cl_Tape T.me_Tape_is_configuration (ok_Tape_is_configuration T) wDef_ar (hr.mono (by decide)) T.b_Tape_is_configuration (da_cons (dv 1) da_nil)))))))) (dss_one (ds_ret de_non)) dss_nil)
    (dss_cons (ds_set (i := 6) sc_UpStair_up.nd (de_lst da_nil))
    (dss_cons (ds_for (di_rng1 (by rfl) T.n_range (da_cons (de_fld (de_fld (dv 0) (ClsD.one T.cl_UpStair T.na_UpStair_upper)) (ClsD.one T.cl_Counters T.na_Counters_count)) da_nil)) (dg_name (i := 7) sc_UpStair_up.nd) (dss_one (ds_expr (de_append (dv 6) (da_cons (de_callB c_sum (by rfl) T.n_sum (by decide +kernel) (da_cons (de_lc sc_UpStair_up.nd (di_items (dv 5)) (blkOk_by (N := N_UpStair_up) (sc := defScope s_UpStair_up) (by decide +kernel)) (fun _ _ _ _ _ => pg_name (i := 9) sc_UpStair_up.nd rfl (Or.inl rfl)) (fun _ _ _ _ _ => dts_nil) (fun _ _ _ _ _ => (de_bin o_and (de_bin o_shr (dv 9) (dv 7)) de_int))) da_nil)) da_nil)))))
    (dss_cons (ds_set (i := 8) sc_UpStair_up.nd (de_tup (da_cons (de_bin o_div (dv 2) (de_gint T.k_STATES_FOR_EACH_upstair)) (da_cons (de_callTy c_tuple (by rfl) T.n_tuple (by decide +kernel) (da_cons (dv 6) da_nil)) da_nil))))
    (dss_one (ds_ret (de_if (dt_cmp (o_eq hr.units) (de_meth (dv 0) T.cl_UpStair T.me_UpStair_down (ok_UpStair_down T) wDef_ar (hr.mono (by decide)) T.b_UpStair_down (da_cons (dv 8) da_nil)) (dv 1)) (dv 8) de_non)))))))))
abbrev N_law_back : List Str := ["stairs", "low", "k"]
theorem sc_law_back : FnScope ["stairs", "low", "k"] ["stairs", "low"] (defScope s_law_back) := ⟨rfl, rfl, rfl, by decide +kernel, rfl, by decide +kernel, by decide +kernel⟩
def W_law_back (T : Tx K mg) : WF := wDef 2 3 ((wSeq (wFor (wRng1 (wCons (wCB gLen (wCons (wVar 0) wNil)) wNil)) (gN 2) (wIfS (wB (wOp2 (gIs true) (wVar 1) (wC .non))) (wSet 1 (wAlt (wMeth T.C_CounterStair "up" (W_CounterStair_up T) (wOp2 gIx (wVar 0) (wOp2 gMinus (wOp2 gMinus (wCB gLen (wCons (wVar 0) wNil)) (wC (.int 1))) (wVar 2))) (wCons (wVar 1) wNil)) (wAlt (wMeth T.C_StackStair "up" (W_StackStair_up T) (wOp2 gIx (wVar 0) (wOp2 gMinus (wOp2 gMinus (wCB gLen (wCons (wVar 0) wNil)) (wC (.int 1))) (wVar 2))) (wCons (wVar 1) wNil)) (wMeth T.C_UpStair "up" (W_UpStair_up T) (wOp2 gIx (wVar 0) (wOp2 gMinus (wOp2 gMinus (wCB gLen (wCons (wVar 0) wNil)) (wC (.int 1))) (wVar 2))) (wCons (wVar 1) wNil))))) wNext))
    (wRet (wVar 1))))
theorem ok_law_back (T : Tx K mg) : FnD P w K mg base 7 T.a_law_back T.d_law_back ["stairs", "low"] (W_law_back T) := fnD_of T.F_law_back sc_law_back (fun cdv A outer s H E hr => (dss_cons (ds_for (di_rng1 (by rfl) T.n_range (da_cons (de_callB c_len (by rfl) T.n_len PySem.boot_len (da_cons (dv 0) da_nil)) da_nil)) (dg_name (i := 2) sc_law_back.nd) (dss_one (ds_if (dt_cmp o_isnot (dv 1) de_non) (dss_one (ds_set (i := 1) sc_law_back.nd (de_alt (de_meth (de_ix o_ix (dv 0) (de_bin o_sub (de_bin o_sub (de_callB c_len (by rfl) T.n_len PySem.boot_len (da_cons (dv 0) da_nil)) de_int) (dv 2))) T.cl_CounterStair T.me_CounterStair_up (ok_CounterStair_up T) wDef_ar (hr.mono (by decide)) T.b_CounterStair_up (da_cons (dv 1) da_nil)) (de_alt (de_meth (de_ix o_ix (dv 0) (de_bin o_sub (de_bin o_sub (de_callB c_len (by rfl) T.n_len PySem.boot_len (da_cons (dv 0) da_nil)) de_int) (dv 2))) T.cl_StackStair T.me_StackStair_up (ok_StackStair_up T) wDef_ar (hr.mono (by decide)) T.b_StackStair_up (da_cons (dv 1) da_nil)) (de_meth (de_ix o_ix (dv 0) (de_bin o_sub (de_bin o_sub (de_callB c_len (by rfl) T.n_len PySem.boot_len (da_cons (dv 0) da_nil)) de_int) (dv 2))) T.cl_UpStair T.me_UpStair_up (ok_UpStair_up T) wDef_ar (hr.mono (by decide)) T.b_UpStair_up (da_cons (dv 1) da_nil)))))) dss_nil)))
    (dss_one (ds_ret (dv 1)))))
abbrev N_Tape_stopped : List Str := ["self", "configuration", "state", "_", "mark"]
theorem sc_Tape_stopped : FnScope ["self", "configuration", "state", "_", "mark"] ["self", "configuration"] (defScope s_Tape_stopped) := ⟨rfl, rfl, rfl, by decide +kernel, rfl, by decide +kernel, by decide +kernel⟩
def W_Tape_stopped (T : Tx K mg) : WF := wDef 2 5 ((wSeq (wAsg (wVar 1) (gT 4 (gCn (gN 2) (gCn (gN 3) (gCn (gN 4) (gCn (gN 3) gNl))))))
    (wRet (wOp2 (gIs false) (wOp2 gIx (wFld [T.C_Tape] (wVar 0) "_rows") (wOp2 gAdd (wOp2 gTimes (wVar 2) (wFld [T.C_Tape] (wVar 0) "marks")) (wVar 4))) (wC .non)))))
theorem ok_Tape_stopped (T : Tx K mg) : FnD P w K mg base 1 T.a_Tape_stopped T.d_Tape_stopped ["self", "configuration"] (W_Tape_stopped T) := fnD_of T.F_Tape_stopped sc_Tape_stopped (fun cdv A outer s H E hr => (dss_cons (ds_asg (dv 1) (dg_tup (dgs_cons (dg_name (i := 2) sc_Tape_stopped.nd) (dgs_cons (dg_name (i := 3) sc_Tape_stopped.nd) (dgs_cons (dg_name (i := 4) sc_Tape_stopped.nd) (dgs_cons (dg_name (i := 3) sc_Tape_stopped.nd) dgs_nil))))))
    (dss_one (ds_ret (de_cmp o_is (de_ix o_ix (de_fld (dv 0) (ClsD.one T.cl_Tape T.na_Tape__rows)) (de_bin o_add (de_bin o_times (dv 2) (de_fld (dv 0) (ClsD.one T.cl_Tape T.na_Tape_marks))) (dv 4))) de_non)))))
abbrev N_Tape_run : List Str := ["self", "configuration", "steps", "state", "left", "mark", "right", "left_marks", "right_marks", "taken", "row", "written", "move", "behind", "ahead"]
theorem sc_Tape_run : FnScope ["self", "configuration", "steps", "state", "left", "mark", "right", "left_marks", "right_marks", "taken", "row", "written", "move", "behind", "ahead"] ["self", "configuration", "steps"] (defScope s_Tape_run) := ⟨rfl, rfl, rfl, by decide +kernel, rfl, by decide +kernel, by decide +kernel⟩
def W_Tape_run (T : Tx K mg) : WF := wDef 3 15 ((wSeq (wAsg (wVar 1) (gT 4 (gCn (gN 3) (gCn (gN 4) (gCn (gN 5) (gCn (gN 6) gNl))))))
    (wSeq (wSet 7 (wCB gListC (wCons (wRev (wVar 4)) wNil)))
    (wSeq (wSet 8 (wCB gListC (wCons (wRev (wVar 6)) wNil)))
    (wSeq (wSet 9 (wC (.int 0)))
    (wSeq (wWhile (wB (wOp2 gLt (wVar 9) (wVar 2))) (wSeq (wSet 10 (wOp2 gIx (wFld [T.C_Tape] (wVar 0) "_rows") (wOp2 gAdd (wOp2 gTimes (wVar 3) (wFld [T.C_Tape] (wVar 0) "marks")) (wVar 5))))
    (wSeq (wIfS (wB (wOp2 (gIs false) (wVar 10) (wC .non))) wBrk wNext)
    (wSeq (wAsg (wVar 10) (gT 3 (gCn (gN 11) (gCn (gN 12) (gCn (gN 3) gNl)))))
    (wSeq (wAsg (wIf (wB (wOp2 (gEq false) (wVar 12) (wC (.int 1)))) (wTup (wCons (wVar 7) (wCons (wVar 8) wNil))) (wTup (wCons (wVar 8) (wCons (wVar 7) wNil)))) (gT 2 (gCn (gN 13) (gCn (gN 14) gNl))))
    (wSeq (wIfS (wOr (wTru (wVar 13)) (wB (wOp2 (gEq true) (wVar 11) (wC (.int 0))))) (wExpr (wAppend (wVar 13) (wCons (wVar 11) wNil))) wNext)
    (wSeq (wSet 5 (wIf (wTru (wVar 14)) (wPop (wVar 14)) (wC (.int 0))))
    (wAugI 9 (fun a b => a + b) (wC (.int 1))))))))))
    (wRet (wTup (wCons (wTup (wCons (wVar 3) (wCons (wCB gTupC (wCons (wRev (wVar 7)) wNil)) (wCons (wVar 5) (wCons (wCB gTupC (wCons (wRev (wVar 8)) wNil)) wNil))))) (wCons (wVar 9) wNil))))))))))
theorem ok_Tape_run (T : Tx K mg) : FnD P w K mg base 1 T.a_Tape_run T.d_Tape_run ["self", "configuration", "steps"] (W_Tape_run T) := fnD_of T.F_Tape_run sc_Tape_run (fun cdv A outer s H E hr => (dss_cons (ds_asg (dv 1) (dg_tup (dgs_cons (dg_name (i := 3) sc_Tape_run.nd) (dgs_cons (dg_name (i := 4) sc_Tape_run.nd) (dgs_cons (dg_name (i := 5) sc_Tape_run.nd) (dgs_cons (dg_name (i := 6) sc_Tape_run.nd) dgs_nil))))))
    (dss_cons (ds_set (i := 7) sc_Tape_run.nd (de_callTy c_list (by rfl) T.n_list (by decide +kernel) (da_cons (de_rev (dv 4)) da_nil)))
    (dss_cons (ds_set (i := 8) sc_Tape_run.nd (de_callTy c_list (by rfl) T.n_list (by decide +kernel) (da_cons (de_rev (dv 6)) da_nil)))
    (dss_cons (ds_set (i := 9) sc_Tape_run.nd de_int)
    (dss_cons (ds_while (dt_cmp o_lt (dv 9) (dv 2)) (dss_cons (ds_set (i := 10) sc_Tape_run.nd (de_ix o_ix (de_fld (dv 0) (ClsD.one T.cl_Tape T.na_Tape__rows)) (de_bin o_add (de_bin o_times (dv 3) (de_fld (dv 0) (ClsD.one T.cl_Tape T.na_Tape_marks))) (dv 5))))
    (dss_cons (ds_if (dt_cmp o_is (dv 10) de_non) (dss_one ds_break) dss_nil)
    (dss_cons (ds_asg (dv 10) (dg_tup (dgs_cons (dg_name (i := 11) sc_Tape_run.nd) (dgs_cons (dg_name (i := 12) sc_Tape_run.nd) (dgs_cons (dg_name (i := 3) sc_Tape_run.nd) dgs_nil)))))
    (dss_cons (ds_asg (de_if (dt_cmp (o_eq hr.units) (dv 12) de_int) (de_tup (da_cons (dv 7) (da_cons (dv 8) da_nil))) (de_tup (da_cons (dv 8) (da_cons (dv 7) da_nil)))) (dg_tup (dgs_cons (dg_name (i := 13) sc_Tape_run.nd) (dgs_cons (dg_name (i := 14) sc_Tape_run.nd) dgs_nil))))
    (dss_cons (ds_if (dt_w (dw_or (dt_truth (dv 13)) (dw_or1 (dt_cmp (o_ne hr.units) (dv 11) de_int)))) (dss_one (ds_expr (de_append (dv 13) (da_cons (dv 11) da_nil)))) dss_nil)
    (dss_cons (ds_set (i := 5) sc_Tape_run.nd (de_if (dt_truth (dv 14)) (de_pop (dv 14)) de_int))
    (dss_one (ds_addI (i := 9) sc_Tape_run.nd de_int)))))))))
    (dss_one (ds_ret (de_tup (da_cons (de_tup (da_cons (dv 3) (da_cons (de_callTy c_tuple (by rfl) T.n_tuple (by decide +kernel) (da_cons (de_rev (dv 7)) da_nil)) (da_cons (dv 5) (da_cons (de_callTy c_tuple (by rfl) T.n_tuple (by decide +kernel) (da_cons (de_rev (dv 8)) da_nil)) da_nil))))) (da_cons (dv 9) da_nil)))))))))))
abbrev N_StackStair_pace : List Str := ["self", "configuration", "state", "_", "mark", "row"]
theorem sc_StackStair_pace : FnScope ["self", "configuration", "state", "_", "mark", "row"] ["self", "configuration"] (defScope s_StackStair_pace) := ⟨rfl, rfl, rfl, by decide +kernel, rfl, by decide +kernel, by decide +kernel⟩
def W_StackStair_pace (T : Tx K mg) : WF := wDef 2 6 ((wSeq (wAsg (wVar 1) (gT 4 (gCn (gN 2) (gCn (gN 3) (gCn (gN 4) (gCn (gN 3) gNl))))))
    (wSeq (wSet 5 (wMeth T.C_Tape "row" (W_Tape_row T) (wFld [T.C_StackStair] (wVar 0) "upper") (wCons (wVar 2) (wCons (wVar 4) wNil))))
    (wSeq (wIfS (wB (wOp2 (gIs false) (wVar 5) (wC .non))) (wRet (wC (.int 0))) wNext)
    (wRet (wIf (wB (wOp2 (gEq false) (wOp2 gIx (wVar 5) (wC (.int 1))) (wC (.int 1)))) (wC (.int 2)) (wC (.int 4))))))))
theorem ok_StackStair_pace (T : Tx K mg) : FnD P w K mg base 4 T.a_StackStair_pace T.d_StackStair_pace ["self", "configuration"] (W_StackStair_pace T) := fnD_of T.F_StackStair_pace sc_StackStair_pace (fun cdv A outer s H E hr => (dss_cons (ds_asg (dv 1) (dg_tup (dgs_cons (dg_name (i := 2) sc_StackStair_pace.nd) (dgs_cons (dg_name (i := 3) sc_StackStair_pace.nd) (dgs_cons (dg_name (i := 4) sc_StackStair_pace.nd) (dgs_cons (dg_name (i := 3) sc_StackStair_pace.nd) dgs_nil))))))
    (dss_cons (ds_set (i := 5) sc_StackStair_pace.nd (de_meth (de_fld (dv 0) (ClsD.one T.cl_StackStair T.na_StackStair_upper)) T.cl_Tape T.me_Tape_row (ok_Tape_row T) wDef_ar (hr.mono (by decide)) T.b_Tape_row (da_cons (dv 2) (da_cons (dv 4) da_nil))))
    (dss_cons (ds_if (dt_cmp o_is (dv 5) de_non) (dss_one (ds_ret de_int)) dss_nil)
    (dss_one (ds_ret (de_if (dt_cmp (o_eq hr.units) (de_ix o_ix (dv 5) de_int) de_int) de_int de_int)))))))
abbrev N_Stacks_row : List Str := ["self", "state"]
theorem sc_Stacks_row : FnScope ["self", "state"] ["self", "state"] (defScope s_Stacks_row) := ⟨rfl, rfl, rfl, by decide +kernel, rfl, by decide +kernel, by decide +kernel⟩
def W_Stacks_row (T : Tx K mg) : WF := wDef 2 2 ((wSeq (wIfS (wNot (wTru (wCall (W_is_number T) (wCons (wVar 1) (wCons (wC (.int 0)) (wCons (wOp2 gMinus (wFld [T.C_Stacks] (wVar 0) "states") (wC (.int 1))) wNil)))))) (wRaise T.X_BadMachine) wNext)
    (wRet (wOp2 gIx (wFld [T.C_Stacks] (wVar 0) "_rows") (wVar 1)))))
theorem ok_Stacks_row (T : Tx K mg) : FnD P w K mg base 3 T.a_Stacks_row T.d_Stacks_row ["self", "state"] (W_Stacks_row T) := fnD_of T.F_Stacks_row sc_Stacks_row (fun cdv A outer s H E hr => (dss_cons (ds_if (dt_not (dt_truth (de_call (ok_is_number T) wDef_ar (hr.mono (by decide)) rfl T.m_is_number T.F_is_number.kp T.b_is_number (da_cons (dv 1) (da_cons de_int (da_cons (de_bin o_sub (de_fld (dv 0) (ClsD.one T.cl_Stacks T.na_Stacks_states)) de_int) da_nil)))))) (dss_one (ds_raise PySem.F.excBase_ValueError T.xq_BadMachine T.xg_BadMachine T.xk_BadMachine (raises_own T.xb_BadMachine T.xt_BadMachine) rfl)) dss_nil)
    (dss_one (ds_ret (de_ix o_ix (de_fld (dv 0) (ClsD.one T.cl_Stacks T.na_Stacks__rows)) (dv 1))))))
abbrev N_CounterStair_pace : List Str := ["self", "configuration", "row", "number"]
theorem sc_CounterStair_pace : FnScope ["self", "configuration", "row", "number"] ["self", "configuration"] (defScope s_CounterStair_pace) := ⟨rfl, rfl, rfl, by decide +kernel, rfl, by decide +kernel, by decide +kernel⟩
def W_CounterStair_pace (T : Tx K mg) : WF := wDef 2 4 ((wSeq (wSet 2 (wMeth T.C_Stacks "row" (W_Stacks_row T) (wFld [T.C_CounterStair] (wVar 0) "upper") (wCons (wOp2 gIx (wVar 1) (wC (.int 0))) wNil)))
    (wSeq (wIfS (wB (wOp2 (gIs false) (wVar 2) (wC .non))) (wRet (wC (.int 0))) wNext)
    (wSeq (wSet 3 (wCall (W_value T) (wCons (wOp2 gIx (wVar 1) (wOp2 gAdd (wC (.int 1)) (wOp2 gIx (wVar 2) (wC (.int 1))))) wNil)))
    (wSeq (wIfS (wB (wOp2 (gEq false) (wOp2 gIx (wVar 2) (wC (.int 0))) (wC (.str "push")))) (wRet (wOp2 gAdd (wOp2 gAdd (wOp2 gTimes (wC (.int 7)) (wVar 3)) (wC (.int 2))) (wOp2 gIx (wVar 2) (wC (.int 2))))) wNext)
    (wRet (wOp2 gAdd (wOp2 gAdd (wOp2 gTimes (wC (.int 5)) (wOp2 gFdiv (wVar 3) (wC (.int 2)))) (wC (.int 2))) (wOp2 gMod (wVar 3) (wC (.int 2))))))))))
theorem ok_CounterStair_pace (T : Tx K mg) : FnD P w K mg base 4 T.a_CounterStair_pace T.d_CounterStair_pace ["self", "configuration"] (W_CounterStair_pace T) := fnD_of T.F_CounterStair_pace sc_CounterStair_pace (fun cdv A outer s H E hr => (dss_cons (ds_set (i := 2) sc_CounterStair_pace.nd (de_meth (de_fld (dv 0) (ClsD.one T.cl_CounterStair T.na_CounterStair_upper)) T.cl_Stacks T.me_Stacks_row (ok_Stacks_row T) wDef_ar (hr.mono (by decide)) T.b_Stacks_row (da_cons (de_ix o_ix (dv 1) de_int) da_nil)))
    (dss_cons (ds_if (dt_cmp o_is (dv 2) de_non) (dss_one (ds_ret de_int)) dss_nil)
    (dss_cons (ds_set (i := 3) sc_CounterStair_pace.nd (de_call (ok_value T) wDef_ar (hr.mono (by decide)) rfl T.m_value T.F_value.kp T.b_value (da_cons (de_ix o_ix (dv 1) (de_bin o_add de_int (de_ix o_ix (dv 2) de_int))) da_nil)))
    (dss_cons (ds_if (dt_cmp (o_eq hr.units) (de_ix o_ix (dv 2) de_int) de_str) (dss_one (ds_ret (de_bin o_add (de_bin o_add (de_bin o_times de_int (dv 3)) de_int) (de_ix o_ix (dv 2) de_int)))) dss_nil)
    (dss_one (ds_ret (de_bin o_add (de_bin o_add (de_bin o_times de_int (de_bin o_div (dv 3) de_int)) de_int) (de_bin o_mod (dv 3) de_int)))))))))
abbrev N_Counters_row : List Str := ["self", "state"]
theorem sc_Counters_row : FnScope ["self", "state"] ["self", "state"] (defScope s_Counters_row) := ⟨rfl, rfl, rfl, by decide +kernel, rfl, by decide +kernel, by decide +kernel⟩
def W_Counters_row (T : Tx K mg) : WF := wDef 2 2 ((wSeq (wIfS (wNot (wTru (wCall (W_is_number T) (wCons (wVar 1) (wCons (wC (.int 0)) (wCons (wOp2 gMinus (wFld [T.C_Counters] (wVar 0) "states") (wC (.int 1))) wNil)))))) (wRaise T.X_BadMachine) wNext)
    (wRet (wOp2 gIx (wFld [T.C_Counters] (wVar 0) "_rows") (wVar 1)))))
theorem ok_Counters_row (T : Tx K mg) : FnD P w K mg base 3 T.a_Counters_row T.d_Counters_row ["self", "state"] (W_Counters_row T) := fnD_of T.F_Counters_row sc_Counters_row (fun cdv A outer s H E hr => (dss_cons (ds_if (dt_not (dt_truth (de_call (ok_is_number T) wDef_ar (hr.mono (by decide)) rfl T.m_is_number T.F_is_number.kp T.b_is_number (da_cons (dv 1) (da_cons de_int (da_cons (de_bin o_sub (de_fld (dv 0) (ClsD.one T.cl_Counters T.na_Counters_states)) de_int) da_nil)))))) (dss_one (ds_raise PySem.F.excBase_ValueError T.xq_BadMachine T.xg_BadMachine T.xk_BadMachine (raises_own T.xb_BadMachine T.xt_BadMachine) rfl)) dss_nil)
    (dss_one (ds_ret (de_ix o_ix (de_fld (dv 0) (ClsD.one T.cl_Counters T.na_Counters__rows)) (dv 1))))))
abbrev N_UpStair_pace : List Str := ["self", "configuration", "state", "counters", "row"]
theorem sc_UpStair_pace : FnScope ["self", "configuration", "state", "counters", "row"] ["self", "configuration"] (defScope s_UpStair_pace) := ⟨rfl, rfl, rfl, by decide +kernel, rfl, by decide +kernel, by decide +kernel⟩
def W_UpStair_pace (T : Tx K mg) : WF := wDef 2 5 ((wSeq (wAsg (wVar 1) (gT 2 (gCn (gN 2) (gCn (gN 3) gNl))))
    (wSeq (wSet 4 (wMeth T.C_Counters "row" (W_Counters_row T) (wFld [T.C_UpStair] (wVar 0) "upper") (wCons (wVar 2) wNil)))
    (wRet (wIf (wB (wOp2 (gIs false) (wVar 4) (wC .non))) (wC (.int 0)) (wOp2 gAdd (wOp2 gTimes (wC (.int 2)) (wOp2 gIx (wVar 3) (wOp2 gIx (wVar 4) (wC (.int 1))))) (wC (.int 2))))))))
theorem ok_UpStair_pace (T : Tx K mg) : FnD P w K mg base 4 T.a_UpStair_pace T.d_UpStair_pace ["self", "configuration"] (W_UpStair_pace T) := fnD_of T.F_UpStair_pace sc_UpStair_pace (fun cdv A outer s H E hr => (dss_cons (ds_asg (dv 1) (dg_tup (dgs_cons (dg_name (i := 2) sc_UpStair_pace.nd) (dgs_cons (dg_name (i := 3) sc_UpStair_pace.nd) dgs_nil))))
    (dss_cons (ds_set (i := 4) sc_UpStair_pace.nd (de_meth (de_fld (dv 0) (ClsD.one T.cl_UpStair T.na_UpStair_upper)) T.cl_Counters T.me_Counters_row (ok_Counters_row T) wDef_ar (hr.mono (by decide)) T.b_Counters_row (da_cons (dv 2) da_nil)))
    (dss_one (ds_ret (de_if (dt_cmp o_is (dv 4) de_non) de_int (de_bin o_add (de_bin o_times de_int (de_ix o_ix (dv 3) (de_ix o_ix (dv 4) de_int))) de_int)))))))
abbrev N_Counters_run : List Str := ["self", "configuration", "steps", "state", "held", "counters", "taken", "row", "counter"]
theorem sc_Counters_run : FnScope ["self", "configuration", "steps", "state", "held", "counters", "taken", "row", "counter"] ["self", "configuration", "steps"] (defScope s_Counters_run) := ⟨rfl, rfl, rfl, by decide +kernel, rfl, by decide +kernel, by decide +kernel⟩
def W_Counters_run (T : Tx K mg) : WF := wDef 3 9 ((wSeq (wAsg (wVar 1) (gT 2 (gCn (gN 3) (gCn (gN 4) gNl))))
    (wSeq (wSet 5 (wCB gListC (wCons (wVar 4) wNil)))
    (wSeq (wSet 6 (wC (.int 0)))
    (wSeq (wWhile (wB (wOp2 gLt (wVar 6) (wVar 2))) (wSeq (wSet 7 (wOp2 gIx (wFld [T.C_Counters] (wVar 0) "_rows") (wVar 3)))
    (wSeq (wIfS (wB (wOp2 (gIs false) (wVar 7) (wC .non))) wBrk wNext)
    (wSeq (wSet 8 (wOp2 gIx (wVar 7) (wC (.int 1))))
    (wSeq (wSet 3 (wOp2 gIx (wVar 7) (wC (.int 2))))
    (wSeq (wIfS (wB (wOp2 (gEq false) (wOp2 gIx (wVar 7) (wC (.int 0))) (wC (.str "inc")))) (wAugX (fun a b => a + b) (wVar 5) (wVar 8) (wC (.int 1))) (wIfS (wB (wOp2 gGt (wOp2 gIx (wVar 5) (wVar 8)) (wC (.int 0)))) (wAugX (fun a b => a - b) (wVar 5) (wVar 8) (wC (.int 1))) (wSet 3 (wOp2 gIx (wVar 7) (wC (.int 3))))))
    (wAugI 6 (fun a b => a + b) (wC (.int 1)))))))))
    (wRet (wTup (wCons (wTup (wCons (wVar 3) (wCons (wCB gTupC (wCons (wVar 5) wNil)) wNil))) (wCons (wVar 6) wNil)))))))))
theorem ok_Counters_run (T : Tx K mg) : FnD P w K mg base 1 T.a_Counters_run T.d_Counters_run ["self", "configuration", "steps"] (W_Counters_run T) := fnD_of T.F_Counters_run sc_Counters_run (fun cdv A outer s H E hr => (dss_cons (ds_asg (dv 1) (dg_tup (dgs_cons (dg_name (i := 3) sc_Counters_run.nd) (dgs_cons (dg_name (i := 4) sc_Counters_run.nd) dgs_nil))))
    (dss_cons (ds_set (i := 5) sc_Counters_run.nd (de_callTy c_list (by rfl) T.n_list (by decide +kernel) (da_cons (dv 4) da_nil)))
    (dss_cons (ds_set (i := 6) sc_Counters_run.nd de_int)
    (dss_cons (ds_while (dt_cmp o_lt (dv 6) (dv 2)) (dss_cons (ds_set (i := 7) sc_Counters_run.nd (de_ix o_ix (de_fld (dv 0) (ClsD.one T.cl_Counters T.na_Counters__rows)) (dv 3)))
    (dss_cons (ds_if (dt_cmp o_is (dv 7) de_non) (dss_one ds_break) dss_nil)
    (dss_cons (ds_set (i := 8) sc_Counters_run.nd (de_ix o_ix (dv 7) de_int))
    (dss_cons (ds_set (i := 3) sc_Counters_run.nd (de_ix o_ix (dv 7) de_int))
    (dss_cons (ds_if (dt_cmp (o_eq hr.units) (de_ix o_ix (dv 7) de_int) de_str) (dss_one (ds_augAdd (dv 5) (dv 8) de_int)) (dss_one (ds_if (dt_cmp o_gt (de_ix o_ix (dv 5) (dv 8)) de_int) (dss_one (ds_augSub (dv 5) (dv 8) de_int)) (dss_one (ds_set (i := 3) sc_Counters_run.nd (de_ix o_ix (dv 7) de_int))))))
    (dss_one (ds_addI (i := 6) sc_Counters_run.nd de_int))))))))
    (dss_one (ds_ret (de_tup (da_cons (de_tup (da_cons (dv 3) (da_cons (de_callTy c_tuple (by rfl) T.n_tuple (by decide +kernel) (da_cons (dv 5) da_nil)) da_nil))) (da_cons (dv 6) da_nil))))))))))
abbrev N_Counters_step : List Str := ["self", "configuration", "after", "taken"]
theorem sc_Counters_step : FnScope ["self", "configuration", "after", "taken"] ["self", "configuration"] (defScope s_Counters_step) := ⟨rfl, rfl, rfl, by decide +kernel, rfl, by decide +kernel, by decide +kernel⟩
def W_Counters_step (T : Tx K mg) : WF := wDef 2 4 ((wSeq (wAsg (wMeth T.C_Counters "run" (W_Counters_run T) (wVar 0) (wCons (wVar 1) (wCons (wC (.int 1)) wNil))) (gT 2 (gCn (gN 2) (gCn (gN 3) gNl))))
    (wRet (wIf (wB (wOp2 (gEq false) (wVar 3) (wC (.int 1)))) (wVar 2) (wC .non)))))
theorem ok_Counters_step (T : Tx K mg) : FnD P w K mg base 2 T.a_Counters_step T.d_Counters_step ["self", "configuration"] (W_Counters_step T) := fnD_of T.F_Counters_step sc_Counters_step (fun cdv A outer s H E hr => (dss_cons (ds_asg (de_meth (dv 0) T.cl_Counters T.me_Counters_run (ok_Counters_run T) wDef_ar (hr.mono (by decide)) T.b_Counters_run (da_cons (dv 1) (da_cons de_int da_nil))) (dg_tup (dgs_cons (dg_name (i := 2) sc_Counters_step.nd) (dgs_cons (dg_name (i := 3) sc_Counters_step.nd) dgs_nil))))
    (dss_one (ds_ret (de_if (dt_cmp (o_eq hr.units) (dv 3) de_int) (dv 2) de_non)))))
abbrev N_Stacks_run : List Str := ["self", "configuration", "steps", "state", "first", "second", "stacks", "taken", "row", "word", "stack", "third", "bits", "bit"]
theorem sc_Stacks_run : FnScope ["self", "configuration", "steps", "state", "first", "second", "stacks", "taken", "row", "word", "stack", "third", "bits", "bit"] ["self", "configuration", "steps"] (defScope s_Stacks_run) := ⟨rfl, rfl, rfl, by decide +kernel, rfl, by decide +kernel, by decide +kernel⟩
def W_Stacks_run (T : Tx K mg) : WF := wDef 3 14 ((wSeq (wAsg (wVar 1) (gT 3 (gCn (gN 3) (gCn (gN 4) (gCn (gN 5) gNl)))))
    (wSeq (wSet 6 (wLst (wCons (wCB gListC (wCons (wRev (wVar 4)) wNil)) (wCons (wCB gListC (wCons (wRev (wVar 5)) wNil)) wNil))))
    (wSeq (wSet 7 (wC (.int 0)))
    (wSeq (wWhile (wB (wOp2 gLt (wVar 7) (wVar 2))) (wSeq (wSet 8 (wOp2 gIx (wFld [T.C_Stacks] (wVar 0) "_rows") (wVar 3)))
    (wSeq (wIfS (wB (wOp2 (gIs false) (wVar 8) (wC .non))) wBrk wNext)
    (wSeq (wAsg (wVar 8) (gT 4 (gCn (gN 9) (gCn (gN 10) (gCn (gN 11) (gCn (gN 3) gNl))))))
    (wSeq (wSet 12 (wOp2 gIx (wVar 6) (wVar 10)))
    (wSeq (wIfS (wB (wOp2 (gEq false) (wVar 9) (wC (.str "pop")))) (wSeq (wSet 13 (wIf (wTru (wVar 12)) (wPop (wVar 12)) (wC (.int 0))))
    (wSet 3 (wIf (wB (wOp2 (gEq false) (wVar 13) (wC (.int 1)))) (wVar 3) (wVar 11)))) (wIfS (wOr (wTru (wVar 12)) (wB (wOp2 (gEq false) (wVar 11) (wC (.int 1))))) (wExpr (wAppend (wVar 12) (wCons (wVar 11) wNil))) wNext))
    (wAugI 7 (fun a b => a + b) (wC (.int 1)))))))))
    (wRet (wTup (wCons (wTup (wCons (wVar 3) (wCons (wCB gTupC (wCons (wRev (wOp2 gIx (wVar 6) (wC (.int 0)))) wNil)) (wCons (wCB gTupC (wCons (wRev (wOp2 gIx (wVar 6) (wC (.int 1)))) wNil)) wNil)))) (wCons (wVar 7) wNil)))))))))
theorem ok_Stacks_run (T : Tx K mg) : FnD P w K mg base 1 T.a_Stacks_run T.d_Stacks_run ["self", "configuration", "steps"] (W_Stacks_run T) := fnD_of T.F_Stacks_run sc_Stacks_run (fun cdv A outer s H E hr => (dss_cons (ds_asg (dv 1) (dg_tup (dgs_cons (dg_name (i := 3) sc_Stacks_run.nd) (dgs_cons (dg_name (i := 4) sc_Stacks_run.nd) (dgs_cons (dg_name (i := 5) sc_Stacks_run.nd) dgs_nil)))))
    (dss_cons (ds_set (i := 6) sc_Stacks_run.nd (de_lst (da_cons (de_callTy c_list (by rfl) T.n_list (by decide +kernel) (da_cons (de_rev (dv 4)) da_nil)) (da_cons (de_callTy c_list (by rfl) T.n_list (by decide +kernel) (da_cons (de_rev (dv 5)) da_nil)) da_nil))))
    (dss_cons (ds_set (i := 7) sc_Stacks_run.nd de_int)
    (dss_cons (ds_while (dt_cmp o_lt (dv 7) (dv 2)) (dss_cons (ds_set (i := 8) sc_Stacks_run.nd (de_ix o_ix (de_fld (dv 0) (ClsD.one T.cl_Stacks T.na_Stacks__rows)) (dv 3)))
    (dss_cons (ds_if (dt_cmp o_is (dv 8) de_non) (dss_one ds_break) dss_nil)
    (dss_cons (ds_asg (dv 8) (dg_tup (dgs_cons (dg_name (i := 9) sc_Stacks_run.nd) (dgs_cons (dg_name (i := 10) sc_Stacks_run.nd) (dgs_cons (dg_name (i := 11) sc_Stacks_run.nd) (dgs_cons (dg_name (i := 3) sc_Stacks_run.nd) dgs_nil))))))
    (dss_cons (ds_set (i := 12) sc_Stacks_run.nd (de_ix o_ix (dv 6) (dv 10)))
    (dss_cons (ds_if (dt_cmp (o_eq hr.units) (dv 9) de_str) (dss_cons (ds_set (i := 13) sc_Stacks_run.nd (de_if (dt_truth (dv 12)) (de_pop (dv 12)) de_int))
    (dss_one (ds_set (i := 3) sc_Stacks_run.nd (de_if (dt_cmp (o_eq hr.units) (dv 13) de_int) (dv 3) (dv 11))))) (dss_one (ds_if (dt_w (dw_or (dt_truth (dv 12)) (dw_or1 (dt_cmp (o_eq hr.units) (dv 11) de_int)))) (dss_one (ds_expr (de_append (dv 12) (da_cons (dv 11) da_nil)))) dss_nil)))
    (dss_one (ds_addI (i := 7) sc_Stacks_run.nd de_int))))))))
    (dss_one (ds_ret (de_tup (da_cons (de_tup (da_cons (dv 3) (da_cons (de_callTy c_tuple (by rfl) T.n_tuple (by decide +kernel) (da_cons (de_rev (de_ix o_ix (dv 6) de_int)) da_nil)) (da_cons (de_callTy c_tuple (by rfl) T.n_tuple (by decide +kernel) (da_cons (de_rev (de_ix o_ix (dv 6) de_int)) da_nil)) da_nil)))) (da_cons (dv 7) da_nil))))))))))
abbrev N_Stacks_step : List Str := ["self", "configuration", "after", "taken"]
theorem sc_Stacks_step : FnScope ["self", "configuration", "after", "taken"] ["self", "configuration"] (defScope s_Stacks_step) := ⟨rfl, rfl, rfl, by decide +kernel, rfl, by decide +kernel, by decide +kernel⟩
def W_Stacks_step (T : Tx K mg) : WF := wDef 2 4 ((wSeq (wAsg (wMeth T.C_Stacks "run" (W_Stacks_run T) (wVar 0) (wCons (wVar 1) (wCons (wC (.int 1)) wNil))) (gT 2 (gCn (gN 2) (gCn (gN 3) gNl))))
    (wRet (wIf (wB (wOp2 (gEq false) (wVar 3) (wC (.int 1)))) (wVar 2) (wC .non)))))
theorem ok_Stacks_step (T : Tx K mg) : FnD P w K mg base 2 T.a_Stacks_step T.d_Stacks_step ["self", "configuration"] (W_Stacks_step T) := fnD_of T.F_Stacks_step sc_Stacks_step (fun cdv A outer s H E hr => (dss_cons (ds_asg (de_meth (dv 0) T.cl_Stacks T.me_Stacks_run (ok_Stacks_run T) wDef_ar (hr.mono (by decide)) T.b_Stacks_run (da_cons (dv 1) (da_cons de_int da_nil))) (dg_tup (dgs_cons (dg_name (i := 2) sc_Stacks_step.nd) (dgs_cons (dg_name (i := 3) sc_Stacks_step.nd) dgs_nil))))
    (dss_one (ds_ret (de_if (dt_cmp (o_eq hr.units) (dv 3) de_int) (dv 2) de_non)))))
abbrev N_law_steps : List Str := ["stairs", "here", "total", "middle", "k", "counting", "j"]
theorem sc_law_steps : FnScope ["stairs", "here", "total", "middle", "k", "counting", "j"] ["stairs", "here"] (defScope s_law_steps) := ⟨rfl, rfl, rfl, by decide +kernel, rfl, by decide +kernel, by decide +kernel⟩
def W_law_steps (T : Tx K mg) : WF := wDef 2 7 ((wSeq (wSet 2 (wC (.int 0)))
    (wSeq (wSet 3 (wMeth T.C_StackStair "down" (W_StackStair_down T) (wOp2 gIx (wVar 0) (wC (.int 0))) (wCons (wVar 1) wNil)))
    (wSeq (wFor (wRng1 (wCons (wMeth T.C_StackStair "pace" (W_StackStair_pace T) (wOp2 gIx (wVar 0) (wC (.int 0))) (wCons (wVar 1) wNil)) wNil)) (gN 4) (wSeq (wSet 5 (wMeth T.C_CounterStair "down" (W_CounterStair_down T) (wOp2 gIx (wVar 0) (wC (.int 1))) (wCons (wVar 3) wNil)))
    (wSeq (wFor (wRng1 (wCons (wMeth T.C_CounterStair "pace" (W_CounterStair_pace T) (wOp2 gIx (wVar 0) (wC (.int 1))) (wCons (wVar 3) wNil)) wNil)) (gN 6) (wSeq (wSet 2 (wOp2 gAdd (wVar 2) (wMeth T.C_UpStair "pace" (W_UpStair_pace T) (wOp2 gIx (wVar 0) (wC (.int 2))) (wCons (wVar 5) wNil))))
    (wSet 5 (wMeth T.C_Counters "step" (W_Counters_step T) (wFld [T.C_CounterStair] (wOp2 gIx (wVar 0) (wC (.int 1))) "lower") (wCons (wVar 5) wNil)))))
    (wSet 3 (wMeth T.C_Stacks "step" (W_Stacks_step T) (wFld [T.C_StackStair] (wOp2 gIx (wVar 0) (wC (.int 0))) "lower") (wCons (wVar 3) wNil))))))
    (wRet (wVar 2))))))
theorem ok_law_steps (T : Tx K mg) : FnD P w K mg base 5 T.a_law_steps T.d_law_steps ["stairs", "here"] (W_law_steps T) := fnD_of T.F_law_steps sc_law_steps (fun cdv A outer s H E hr => (dss_cons (ds_set (i := 2) sc_law_steps.nd de_int)
    (dss_cons (ds_set (i := 3) sc_law_steps.nd (de_meth (de_ix o_ix (dv 0) de_int) T.cl_StackStair T.me_StackStair_down (ok_StackStair_down T) wDef_ar (hr.mono (by decide)) T.b_StackStair_down (da_cons (dv 1) da_nil)))
    (dss_cons (ds_for (di_rng1 (by rfl) T.n_range (da_cons (de_meth (de_ix o_ix (dv 0) de_int) T.cl_StackStair T.me_StackStair_pace (ok_StackStair_pace T) wDef_ar (hr.mono (by decide)) T.b_StackStair_pace (da_cons (dv 1) da_nil)) da_nil)) (dg_name (i := 4) sc_law_steps.nd) (dss_cons (ds_set (i := 5) sc_law_steps.nd (de_meth (de_ix o_ix (dv 0) de_int) T.cl_CounterStair T.me_CounterStair_down (ok_CounterStair_down T) wDef_ar (hr.mono (by decide)) T.b_CounterStair_down (da_cons (dv 3) da_nil)))
    (dss_cons (ds_for (di_rng1 (by rfl) T.n_range (da_cons (de_meth (de_ix o_ix (dv 0) de_int) T.cl_CounterStair T.me_CounterStair_pace (ok_CounterStair_pace T) wDef_ar (hr.mono (by decide)) T.b_CounterStair_pace (da_cons (dv 3) da_nil)) da_nil)) (dg_name (i := 6) sc_law_steps.nd) (dss_cons (ds_set (i := 2) sc_law_steps.nd (de_bin o_add (dv 2) (de_meth (de_ix o_ix (dv 0) de_int) T.cl_UpStair T.me_UpStair_pace (ok_UpStair_pace T) wDef_ar (hr.mono (by decide)) T.b_UpStair_pace (da_cons (dv 5) da_nil))))
    (dss_one (ds_set (i := 5) sc_law_steps.nd (de_meth (de_fld (de_ix o_ix (dv 0) de_int) (ClsD.one T.cl_CounterStair T.na_CounterStair_lower)) T.cl_Counters T.me_Counters_step (ok_Counters_step T) wDef_ar (hr.mono (by decide)) T.b_Counters_step (da_cons (dv 5) da_nil))))))
    (dss_one (ds_set (i := 3) sc_law_steps.nd (de_meth (de_fld (de_ix o_ix (dv 0) de_int) (ClsD.one T.cl_StackStair T.na_StackStair_lower)) T.cl_Stacks T.me_Stacks_step (ok_Stacks_step T) wDef_ar (hr.mono (by decide)) T.b_Stacks_step (da_cons (dv 3) da_nil)))))))
    (dss_one (ds_ret (dv 2)))))))
abbrev N_Tape_step : List Str := ["self", "configuration", "after", "taken"]
theorem sc_Tape_step : FnScope ["self", "configuration", "after", "taken"] ["self", "configuration"] (defScope s_Tape_step) := ⟨rfl, rfl, rfl, by decide +kernel, rfl, by decide +kernel, by decide +kernel⟩
def W_Tape_step (T : Tx K mg) : WF := wDef 2 4 ((wSeq (wAsg (wMeth T.C_Tape "run" (W_Tape_run T) (wVar 0) (wCons (wVar 1) (wCons (wC (.int 1)) wNil))) (gT 2 (gCn (gN 2) (gCn (gN 3) gNl))))
    (wRet (wIf (wB (wOp2 (gEq false) (wVar 3) (wC (.int 1)))) (wVar 2) (wC .non)))))
theorem ok_Tape_step (T : Tx K mg) : FnD P w K mg base 2 T.a_Tape_step T.d_Tape_step ["self", "configuration"] (W_Tape_step T) := fnD_of T.F_Tape_step sc_Tape_step (fun cdv A outer s H E hr => (dss_cons (ds_asg (de_meth (dv 0) T.cl_Tape T.me_Tape_run (ok_Tape_run T) wDef_ar (hr.mono (by decide)) T.b_Tape_run (da_cons (dv 1) (da_cons de_int da_nil))) (dg_tup (dgs_cons (dg_name (i := 2) sc_Tape_step.nd) (dgs_cons (dg_name (i := 3) sc_Tape_step.nd) dgs_nil))))
    (dss_one (ds_ret (de_if (dt_cmp (o_eq hr.units) (dv 3) de_int) (dv 2) de_non)))))
abbrev N_law : List Str := ["script", "draws", "states", "machine", "first", "second", "stairs", "here", "last", "k", "low", "steps"]
theorem sc_law : FnScope ["script", "draws", "states", "machine", "first", "second", "stairs", "here", "last", "k", "low", "steps"] ["script"] (defScope s_law) := ⟨rfl, rfl, rfl, by decide +kernel, rfl, by decide +kernel, by decide +kernel⟩
def W_law (T : Tx K mg) : WF := wDef 1 12 ((wSeq (wSet 1 (wCall (W_law_draws T) (wCons (wVar 0) (wCons (wC (.int 30)) wNil))))
    (wSeq (wSet 2 (wOp2 gAdd (wC (.int 1)) (wOp2 gMod (wOp2 gIx (wVar 1) (wC (.int 20))) (wC (.int 2)))))
    (wSeq (wSet 3 (wMake T.C_Tape (W_Tapedd_initdd T) (wCons (wC (.int 2)) (wCons (wVar 2) (wCons (wCall (W_law_tape_rows T) (wCons (wVar 1) (wCons (wC (.int 2)) (wCons (wVar 2) wNil)))) wNil)))))
    (wSeq (wSet 4 (wMake T.C_StackStair (W_StackStairdd_initdd T) (wCons (wVar 3) wNil)))
    (wSeq (wSet 5 (wMake T.C_CounterStair (W_CounterStairdd_initdd T) (wCons (wFld [T.C_StackStair] (wVar 4) "lower") wNil)))
    (wSeq (wSet 6 (wLst (wCons (wVar 4) (wCons (wVar 5) (wCons (wMake T.C_UpStair (W_UpStairdd_initdd T) (wCons (wFld [T.C_CounterStair] (wVar 5) "lower") wNil)) wNil)))))
    (wSeq (wSet 7 (wTup (wCons (wOp2 gMod (wOp2 gIx (wVar 1) (wC (.int 21))) (wVar 2)) (wCons (wCall (W_law_bits T) (wCons (wOp2 gIx (wVar 1) (wC (.int 22))) (wCons (wC (.int 2)) wNil))) (wCons (wOp2 gMod (wOp2 gIx (wVar 1) (wC (.int 23))) (wC (.int 2))) (wCons (wCall (W_law_bits T) (wCons (wOp2 gIx (wVar 1) (wC (.int 24))) (wCons (wC (.int 2)) wNil))) wNil))))))
    (wSeq (wSet 8 (wFld [T.C_UpStair] (wOp2 gIx (wVar 6) (wC (.int 2))) "lower"))
    (wSeq (wFor (wRng1 (wCons (wOp2 gAdd (wC (.int 1)) (wCB gIntC (wCons (wOp2 (gEq false) (wOp2 gMod (wOp2 gIx (wVar 1) (wC (.int 25))) (wC (.int 6))) (wC (.int 0))) wNil))) wNil)) (gN 9) (wSeq (wSet 10 (wCall (W_law_down T) (wCons (wVar 6) (wCons (wVar 7) wNil))))
    (wSeq (wIfS (wB (wOp2 (gEq true) (wCall (W_law_back T) (wCons (wVar 6) (wCons (wVar 10) wNil))) (wVar 7))) (wRet (wC (.bl false))) wNext)
    (wSeq (wIfS (wTru (wMeth T.C_Tape "stopped" (W_Tape_stopped T) (wVar 3) (wCons (wVar 7) wNil))) (wRet (wOp2 gLt (wOp2 gIx (wMeth T.C_Tape "run" (W_Tape_run T) (wVar 8) (wCons (wVar 10) (wCons (wC (.int 2000)) wNil))) (wC (.int 1))) (wC (.int 2000)))) wNext)
    (wSeq (wIfS (wB (wOp2 gGt (wOp2 gAdd (wCB gLen (wCons (wOp2 gIx (wVar 7) (wC (.int 1))) wNil)) (wCB gLen (wCons (wOp2 gIx (wVar 7) (wC (.int 3))) wNil))) (wC (.int 5)))) (wRet (wC (.bl true))) wNext)
    (wSeq (wSet 11 (wCall (W_law_steps T) (wCons (wVar 6) (wCons (wVar 7) wNil))))
    (wSeq (wSet 7 (wMeth T.C_Tape "step" (W_Tape_step T) (wVar 3) (wCons (wVar 7) wNil)))
    (wIfS (wB (wOp2 (gEq true) (wMeth T.C_Tape "run" (W_Tape_run T) (wVar 8) (wCons (wVar 10) (wCons (wVar 11) wNil))) (wTup (wCons (wCall (W_law_down T) (wCons (wVar 6) (wCons (wVar 7) wNil))) (wCons (wVar 11) wNil))))) (wRet (wC (.bl false))) wNext))))))))
    (wRet (wC (.bl true)))))))))))))
theorem ok_law (T : Tx K mg) : FnD P w K mg base 8 T.a_law T.d_law ["script"] (W_law T) := fnD_of T.F_law sc_law (fun cdv A outer s H E hr => (dss_cons (ds_set (i := 1) sc_law.nd (de_call (ok_law_draws T) wDef_ar (hr.mono (by decide)) rfl T.m_law_draws T.F_law_draws.kp T.b_law_draws (da_cons (dv 0) (da_cons de_int da_nil))))
    (dss_cons (ds_set (i := 2) sc_law.nd (de_bin o_add de_int (de_bin o_mod (de_ix o_ix (dv 1) de_int) de_int)))
    (dss_cons (ds_set (i := 3) sc_law.nd (de_make T.mk_Tape (ok_Tapedd_initdd T) wDef_ar (hr.mono (by decide)) rfl T.mc_Tape T.b_Tapedd_initdd (da_cons de_int (da_cons (dv 2) (da_cons (de_call (ok_law_tape_rows T) wDef_ar (hr.mono (by decide)) rfl T.m_law_tape_rows T.F_law_tape_rows.kp T.b_law_tape_rows (da_cons (dv 1) (da_cons de_int (da_cons (dv 2) da_nil)))) da_nil)))))
    (dss_cons (ds_set (i := 4) sc_law.nd (de_make T.mk_StackStair (ok_StackStairdd_initdd T) wDef_ar (hr.mono (by decide)) rfl T.mc_StackStair T.b_StackStairdd_initdd (da_cons (dv 3) da_nil)))
    (dss_cons (ds_set (i := 5) sc_law.nd (de_make T.mk_CounterStair (ok_CounterStairdd_initdd T) wDef_ar (hr.mono (by decide)) rfl T.mc_CounterStair T.b_CounterStairdd_initdd (da_cons (de_fld (dv 4) (ClsD.one T.cl_StackStair T.na_StackStair_lower)) da_nil)))
    (dss_cons (ds_set (i := 6) sc_law.nd (de_lst (da_cons (dv 4) (da_cons (dv 5) (da_cons (de_make T.mk_UpStair (ok_UpStairdd_initdd T) wDef_ar (hr.mono (by decide)) rfl T.mc_UpStair T.b_UpStairdd_initdd (da_cons (de_fld (dv 5) (ClsD.one T.cl_CounterStair T.na_CounterStair_lower)) da_nil)) da_nil)))))
    (dss_cons (ds_set (i := 7) sc_law.nd (de_tup (da_cons (de_bin o_mod (de_ix o_ix (dv 1) de_int) (dv 2)) (da_cons (de_call (ok_law_bits T) wDef_ar (hr.mono (by decide)) rfl T.m_law_bits T.F_law_bits.kp T.b_law_bits (da_cons (de_ix o_ix (dv 1) de_int) (da_cons de_int da_nil))) (da_cons (de_bin o_mod (de_ix o_ix (dv 1) de_int) de_int) (da_cons (de_call (ok_law_bits T) wDef_ar (hr.mono (by decide)) rfl T.m_law_bits T.F_law_bits.kp T.b_law_bits (da_cons (de_ix o_ix (dv 1) de_int) (da_cons de_int da_nil))) da_nil))))))
    (dss_cons (ds_set (i := 8) sc_law.nd (de_fld (de_ix o_ix (dv 6) de_int) (ClsD.one T.cl_UpStair T.na_UpStair_lower)))
    (dss_cons (ds_for (di_rng1 (by rfl) T.n_range (da_cons (de_bin o_add de_int (de_callTy c_int (by rfl) T.n_int (by decide +kernel) (da_cons (de_cmp (o_eq hr.units) (de_bin o_mod (de_ix o_ix (dv 1) de_int) de_int) de_int) da_nil))) da_nil)) (dg_name (i := 9) sc_law.nd) (dss_cons (ds_set (i := 10) sc_law.nd (de_call (ok_law_down T) wDef_ar (hr.mono (by decide)) rfl T.m_law_down T.F_law_down.kp T.b_law_down (da_cons (dv 6) (da_cons (dv 7) da_nil))))
    (dss_cons (ds_if (dt_cmp (o_ne hr.units) (de_call (ok_law_back T) wDef_ar (hr.mono (by decide)) rfl T.m_law_back T.F_law_back.kp T.b_law_back (da_cons (dv 6) (da_cons (dv 10) da_nil))) (dv 7)) (dss_one (ds_ret de_bl)) dss_nil)
    (dss_cons (ds_if (dt_truth (de_meth (dv 3) T.cl_Tape T.me_Tape_stopped (ok_Tape_stopped T) wDef_ar (hr.mono (by decide)) T.b_Tape_stopped (da_cons (dv 7) da_nil))) (dss_one (ds_ret (de_cmp o_lt (de_ix o_ix (de_meth (dv 8) T.cl_Tape T.me_Tape_run (ok_Tape_run T) wDef_ar (hr.mono (by decide)) T.b_Tape_run (da_cons (dv 10) (da_cons de_int da_nil))) de_int) de_int))) dss_nil)
    (dss_cons (ds_if (dt_cmp o_gt (de_bin o_add (de_callB c_len (by rfl) T.n_len PySem.boot_len (da_cons (de_ix o_ix (dv 7) de_int) da_nil)) (de_callB c_len (by rfl) T.n_len PySem.boot_len (da_cons (de_ix o_ix (dv 7) de_int) da_nil))) de_int) (dss_one (ds_ret de_bl)) dss_nil)
    (dss_cons (ds_set (i := 11) sc_law.nd (de_call (ok_law_steps T) wDef_ar (hr.mono (by decide)) rfl T.m_law_steps T.F_law_steps.kp T.b_law_steps (da_cons (dv 6) (da_cons (dv 7) da_nil))))
    (dss_cons (ds_set (i := 7) sc_law.nd (de_meth (dv 3) T.cl_Tape T.me_Tape_step (ok_Tape_step T) wDef_ar (hr.mono (by decide)) T.b_Tape_step (da_cons (dv 7) da_nil)))
    (dss_one (ds_if (dt_cmp (o_ne hr.units) (de_meth (dv 8) T.cl_Tape T.me_Tape_run (ok_Tape_run T) wDef_ar (hr.mono (by decide)) T.b_Tape_run (da_cons (dv 10) (da_cons (dv 11) da_nil))) (de_tup (da_cons (de_call (ok_law_down T) wDef_ar (hr.mono (by decide)) rfl T.m_law_down T.F_law_down.kp T.b_law_down (da_cons (dv 6) (da_cons (dv 7) da_nil))) (da_cons (dv 11) da_nil)))) (dss_one (ds_ret de_bl)) dss_nil)))))))))
    (dss_one (ds_ret de_bl))))))))))))
end
section
variable {K : PySem.W.Frag} {mg : Str → Option Value}
local macro_rules | `(tactic| walk_at "ev") => `(tactic| ((try dsimp only [zVS, zVZ, zSS, zSZ, zItems_r, zItems_t, zItems_s, zItQ_i, zLenQ_r, zLenQ_tup, zLenQ_sl, zLstQ_r, zGIx_r, zGIx_tup, zGIx_sl, zGSl_r, zGSl_tup, zGRev_r, zGRev_tup, zSrcQ_r, zSrcQ_tup, zFldQ_r, zQAt_some, zGAdd_int, zGAdd_tup, zGI_int, zGI0_int, zGTimes_int, zGTimes_tup, zGIs_non, zGIs_bl, zGIs_bln, zGIs_int, zGIs_tup, zGIs_ref, zGIs_str, zTyQ_int, zTyQ_non, zTyQ_bl, zTyQ_str, zTyQ_tup, zESet, zEExpr, zERet, zERetN, zENext, zEPass, zEBrk, zECnt, zEIfS, zEAsg, zEFor, zEFldS, zERaise, zEC, zENil, zECons, zETup, zELst, zEOp2, zEB, zETru, zTBl, zTNon, zTInt, zTTup, zEAnd, zEOr, zENot, zEAndV, zEOrV, zENotV, zEIf, zEIsi, zECB, zECall, zEFld, zEMeth, zEMake, zEAppend, zEPop, zESl, zENoP, zEPart, zENeg, zERev, zETupRev, zEChain, zEItems, zERng1, zERng2, zELc, zELen, zEOne, zEAbs, zEIntC, zEListC, zETupC, zEMaxT, zEYes, zEPar, zETry, zEIsE, zEAllL, zEGN, zEGNl, zEGCn, zEGT, zEGSub, zEIxQ, zENewL, zEBits, zEAugX, zEEnum]); repeat (simp only [zEAugI, zGEq_int, zGEq_bl, zTyQ_r, dup_same, zL0, zL1, zL2, zL3, zL4, beq_self_eq_true, true_and, Bool.false_eq_true, if_false, if_true, decide_eq_true_eq, isiB, Bool.true_or, Bool.false_or, Bool.or_false, Bool.or_true, Bool.and_true, Bool.true_and, Bool.false_and, Bool.and_false, Bool.not_true, Bool.not_false, Bool.not_eq_true', decide_eq_false_iff_not, reduceCtorEq, zAt0, zAt1, zAt2, zAt3, zEAugL]; try dsimp only [zVS, zVZ, zSS, zSZ, zItems_r, zItems_t, zItems_s, zItQ_i, zLenQ_r, zLenQ_tup, zLenQ_sl, zLstQ_r, zGIx_r, zGIx_tup, zGIx_sl, zGSl_r, zGSl_tup, zGRev_r, zGRev_tup, zSrcQ_r, zSrcQ_tup, zFldQ_r, zQAt_some, zGAdd_int, zGAdd_tup, zGI_int, zGI0_int, zGTimes_int, zGTimes_tup, zGIs_non, zGIs_bl, zGIs_bln, zGIs_int, zGIs_tup, zGIs_ref, zGIs_str, zTyQ_int, zTyQ_non, zTyQ_bl, zTyQ_str, zTyQ_tup, zESet, zEExpr, zERet, zERetN, zENext, zEPass, zEBrk, zECnt, zEIfS, zEAsg, zEFor, zEFldS, zERaise, zEC, zENil, zECons, zETup, zELst, zEOp2, zEB, zETru, zTBl, zTNon, zTInt, zTTup, zEAnd, zEOr, zENot, zEAndV, zEOrV, zENotV, zEIf, zEIsi, zECB, zECall, zEFld, zEMeth, zEMake, zEAppend, zEPop, zESl, zENoP, zEPart, zENeg, zERev, zETupRev, zEChain, zEItems, zERng1, zERng2, zELc, zELen, zEOne, zEAbs, zEIntC, zEListC, zETupC, zEMaxT, zEYes, zEPar, zETry, zEIsE, zEAllL, zEGN, zEGNl, zEGCn, zEGT, zEGSub, zEIxQ, zENewL, zEBits, zEAugX, zEEnum])))
local macro_rules | `(tactic| walk_at "en") => `(tactic| simp only [List.map_cons, List.map_nil, Nat.reduceSub, List.replicate_succ, List.replicate_zero, List.cons_append, List.nil_append, List.append_nil])
local macro_rules | `(tactic| walk_at "sq") => `(tactic| (refine seq_i fun N hN => ?_; walk_at "ev"))
local macro_rules | `(tactic| walk_at "dv") => `(tactic| first | (dsimp only [zVS, zVZ, zSS, zSZ, zLenQ_tup, zLenQ_sl, zGIx_tup, zGIx_sl, zGSl_tup, zGRev_tup, zSrcQ_tup, zQAt_some, zGAdd_int, zGAdd_tup, zGI_int, zGI0_int, zGTimes_int, zGTimes_tup, zGIs_non, zGIs_bl, zGIs_bln, zGIs_int, zGIs_tup, zGIs_ref, zGIs_str, zTyQ_int, zTyQ_non, zTyQ_bl, zTyQ_str, zTyQ_tup, zESet, zEExpr, zERet, zERetN, zENext, zEPass, zEBrk, zECnt, zEIfS, zEAsg, zEFor, zEFldS, zERaise, zEC, zENil, zECons, zETup, zELst, zEOp2, zEB, zETru, zTBl, zTNon, zTInt, zTTup, zEAnd, zEOr, zENot, zEAndV, zEOrV, zENotV, zEIf, zEIsi, zECB, zECall, zEFld, zEMeth, zEMake, zEAppend, zEPop, zESl, zENoP, zEPart, zENeg, zERev, zETupRev, zEChain, zEItems, zERng1, zERng2, zELc, zELen, zEOne, zEAbs, zEIntC, zEListC, zETupC, zEMaxT, zEYes, zEPar, zETry, zEIsE, zEGN, zEGNl, zEGCn, zEGT, zEGSub, zENewL, zEBits, zEAugX, zEEnum]; try simp only [zEAugI, zGEq_int, zGEq_bl, dup_same, dup_dup, beq_self_eq_true, true_and, Bool.false_eq_true, if_false, if_true, decide_eq_true_eq, isiB, Bool.true_or, Bool.false_or, Bool.or_false, Bool.or_true, Bool.and_true, Bool.true_and, Bool.false_and, Bool.and_false, Bool.not_true, Bool.not_false, Bool.not_eq_true', decide_eq_false_iff_not, reduceCtorEq, Bool.or_eq_false_iff, Bool.or_eq_true, not_true_eq_false, not_false_eq_true, String.reduceBEq, zAt0, zAt1, zAt2, zAt3, zEAugL]) | simp only [zEAugI, zGEq_int, zGEq_bl, dup_same, dup_dup, beq_self_eq_true, true_and, Bool.false_eq_true, if_false, if_true, decide_eq_true_eq, isiB, Bool.true_or, Bool.false_or, Bool.or_false, Bool.or_true, Bool.and_true, Bool.true_and, Bool.false_and, Bool.and_false, Bool.not_true, Bool.not_false, Bool.not_eq_true', decide_eq_false_iff_not, reduceCtorEq, Bool.or_eq_false_iff, Bool.or_eq_true, not_true_eq_false, not_false_eq_true, String.reduceBEq, zAt0, zAt1, zAt2, zAt3, zEAugL])
local macro_rules | `(tactic| walk_at "sz") => `(tactic| (have hsz__ : sizeLine = 16777216 := rfl; (try simp only [List.length_map, List.length_append, List.length_cons, List.length_nil, List.length_reverse, List.length_drop, List.length_take, List.length_replicate, List.length_set, List.length_range, repLen]); omega))
local macro_rules | `(tactic| walk_at "sd") => `(tactic| first | assumption | omega | exact cdiv (by omega) (by omega) | exact cmulR (by omega) (by omega) | exact cmulL (by omega) (by omega) | walk_at "sz" | (with_reducible rfl) | ((with_reducible show List.length _ = _); rfl) | ((with_reducible show getElem? _ _ = some (some (D.ref _))); rfl) | ((with_reducible show @Eq (Option DO) _ _); walk_at "hp") | exact cpow_s (by omega) (by omega) (by omega) (by omega))
local macro_rules | `(tactic| walk_at "hp") => `(tactic| first | assumption | exact dup_same | exact dup_old (by walk_at "hp") (by assumption) | (refine (dup_ne ?g1).trans ?g2; (case g1 => first | assumption | (exact Ne.symm (by assumption))); (case g2 => walk_at "hp")))
local macro_rules | `(tactic| walk_at "g1") => `(tactic| first
  | ((with_reducible refine seq_c fun _ _ => ?_))
  | ((with_reducible refine cont_go (s := ?s1) (E := ?s2) ?g1 ?g2); (case g1 => assumption))
  | ((with_reducible refine rx_go (Q := ?s1) (Qx := ?s2) ?g1 ?g2); (case g1 => assumption))
  | ((with_reducible refine nx_go (Q := ?s1) (Qx := ?s2) ?g1 ?g2); (case g1 => assumption))
  | walk_at "dv"
  | ((with_reducible refine gIx_i (xs := ?s1) ?g1 ?g2); (case g1 => walk_at "hp"))
  | ((with_reducible refine qat_i (d := ?s1) ?g1 ?g2); (case g1 => first | assumption | exact zAt0 | exact zAt1 | exact zAt2 | exact zAt3))
  | ((with_reducible refine ixQ_i (j := ?s1) ?g1 ?g2); (case g1 => first | assumption | rfl | exact ixN_nat (by walk_at "sz")))
  | ((with_reducible refine lenQ_i (xs := ?s1) ?g1 ?g2); (case g1 => walk_at "hp"))
  | ((with_reducible refine lstQ_i (xs := ?s1) ?g1 ?g2); (case g1 => walk_at "hp"))
  | ((with_reducible refine And.intro (lstQ_i (xs := ?s1) ?g1 True.intro) ?g2); (case g1 => walk_at "hp"))
  | ((with_reducible refine srcQ_i (xs := ?s1) ?g1 ?g2); (case g1 => walk_at "hp"))
  | ((with_reducible refine itQ_i (xs := ?s1) ?g1 ?g2); (case g1 => walk_at "hp"))
  | ((with_reducible refine itQ_t ?_))
  | ((with_reducible refine itQ_s ?_))
  | ((with_reducible refine gSl_s ?_))
  | ((with_reducible refine srcQ_s ?_))
  | ((with_reducible refine gSl_i (xs := ?s1) ?g1 ?g2); (case g1 => walk_at "hp"))
  | ((with_reducible refine gRev_i (xs := ?s1) ?g1 ?g2); (case g1 => walk_at "hp"))
  | ((with_reducible refine gAddL_i (xs := ?s1) (ys := ?s2) ?g1 ?g2 ?g3 ?g4); (case g1 => walk_at "hp"); (case g2 => walk_at "hp"); (case g3 => walk_at "sz"))
  | ((with_reducible refine fld_i (C := ?s1) (fs := ?s2) (d := ?s3) ?g1 ?g2 ?g3 ?g4); (case g1 => walk_at "hp"); (case g2 => exact List.mem_singleton_self _); (case g3 => rfl))
  | ((with_reducible refine truL (xs := ?s1) ?g1 ?g2); (case g1 => walk_at "hp"))
  | ((with_reducible refine gTimesL_i (xs := ?s1) ?g1 ?g2 ?g3); (case g1 => walk_at "hp"); (case g2 => first | exact ⟨by decide, by decide, by decide⟩ | exact ⟨by omega, by omega, by walk_at "sz"⟩))
  | (with_reducible refine gInI2 ?_)
  | (with_reducible refine catch_i ?_)
  | ((with_reducible refine catch_a ?_); intro _)
  | ((with_reducible refine tyQ_i (xs := ?s1) ?g1 ?g2); (case g1 => walk_at "hp"))
  | ((with_reducible refine And.intro (insQ_i (fs := ?s1) ?g1 ?g2) ?g3); (case g1 => walk_at "hp"); (case g2 => rfl))
  | ((with_reducible refine fldS_i (C := ?s1) (fs := ?s2) ?g1 ?g2 ?g3 ?g4); (case g1 => walk_at "hp"); (case g2 => exact List.mem_singleton_self _); (case g3 => first | exact (show 0 < 1000 by decide) | exact (show 1 < 1000 by decide) | exact (show 2 < 1000 by decide) | exact (show 3 < 1000 by decide) | exact (show 4 < 1000 by decide) | exact (show 5 < 1000 by decide) | exact (show 6 < 1000 by decide)))
  | ((with_reducible refine gEqS_t ?g1 ?g2); (case g1 => decide +kernel))
  | ((with_reducible refine gEqS_f ?g1 ?g2 ?g3 ?g4); (case g1 => decide +kernel); (case g2 => decide +kernel); (case g3 => decide +kernel))
  | (with_reducible rw [if_pos (by walk_at "sd")])
  | (with_reducible rw [if_neg (by walk_at "sd")])
  | ((with_reducible refine And.intro ?g1 ?g2); (case g1 => walk_at "sd"))
  | walk_at "call")
local macro_rules | `(tactic| walk_at "sb") => `(tactic| first | exact Sub.refl _ | assumption | exact Sub.new (by assumption) | exact (Sub.new (by assumption)).trans (Sub.new (by assumption)) | exact sub_last (by assumption) (by assumption))
local macro_rules | `(tactic| walk_at "rt") => `(tactic| (refine rt_sub (Q := ?s1) (Qx := ?s2) (h := ?s3) ?g1 ?g2 ?g3; (case g1 => assumption); (case g3 => assumption); (case g2 => walk_at "sb")))
local macro_rules | `(tactic| walk_at "rg") => `(tactic| (refine rt_go (Q := ?s1) (Qx := ?s2) ?g1 ?g2; (case g1 => assumption)))
local macro_rules | `(tactic| walk_at "go") => `(tactic| repeat walk_at "g1")
local macro_rules | `(tactic| walk_at "df") => `(tactic| (refine def_c rfl fun _ _ => ?_; walk_at "en"; walk_at "go"))
local macro_rules | `(tactic| walk_at "dw") => `(tactic| first | (dsimp only [zVS, zVZ, zSS, zSZ, zLenQ_tup, zLenQ_sl, zGIx_tup, zGIx_sl, zGSl_tup, zGRev_tup, zSA, zSN, zST, zSU, zSrcQ_tup, zQAt_some, zGAdd_int, zGAdd_tup, zGI_int, zGI0_int, zGTimes_int, zGTimes_tup, zGIs_non, zGIs_bl, zGIs_bln, zGIs_int, zGIs_tup, zGIs_ref, zGIs_str, zTyQ_int, zTyQ_non, zTyQ_bl, zTyQ_str, zTyQ_tup, zESet, zEExpr, zERet, zERetN, zENext, zEPass, zEBrk, zECnt, zEIfS, zEAsg, zEFor, zEFldS, zERaise, zEC, zENil, zECons, zETup, zELst, zEOp2, zEB, zETru, zTBl, zTNon, zTInt, zTTup, zEAnd, zEOr, zENot, zEAndV, zEOrV, zENotV, zEIf, zEIsi, zECB, zECall, zEFld, zEMeth, zEMake2, zEExtend, zEClear, zEDelTo, zEMin2, zEMax2, zEAppend, zEPop, zESl, zENoP, zEPart, zENeg, zERev, zETupRev, zEChain, zEItems, zERng1, zERng2, zELc2, zELen, zEOne, zEAbs, zEIntC, zEListC, zETupC, zEMaxT, zEYes, zEPar, zETry, zEIsE, zEGN, zEGNl, zEGCn, zEGT, zEGSub, zEBits, zEAugX, zEEnum, zEEnumA, zELcP, zEGcd, zEAlt, zEMtS, zStrK, zGJoin, zGFindS, zGFind3, zGStarts, zGStarts3, zGInS]; try simp only [Option.isNone_none, Option.isNone_some, zEAugT, List.isEmpty_nil, List.isEmpty_cons, zEIntCb, cut_63, decide_true, decide_false, List.cons_append, List.nil_append, List.length_map, List.length_range, Int.zero_add, Int.reduceAdd, Int.reduceSub, Int.reduceMul, cut_to, cut_fr, cut_fr1, cut_to1, cut_f1, cut_f2, cut_f3, cut_t1, cut_t2, cut_t3, cut_m1, List.drop_succ_cons, List.drop_zero, List.take_succ_cons, List.take_zero, List.drop_nil, List.take_nil, List.dropLast_cons_cons, List.dropLast_singleton, ← List.map_take, ← List.map_drop, Int.toNat_natCast, zEAugI, zGEq_int, zGEq_bl, dup_same, dup_dup, beq_self_eq_true, true_and, Bool.false_eq_true, if_false, if_true, decide_eq_true_eq, isiB, Bool.true_or, Bool.false_or, Bool.or_false, Bool.or_true, Bool.and_true, Bool.true_and, Bool.false_and, Bool.and_false, Bool.not_true, Bool.not_false, Bool.not_eq_true', decide_eq_false_iff_not, reduceCtorEq, Bool.or_eq_false_iff, Bool.or_eq_true, not_true_eq_false, not_false_eq_true, String.reduceBEq, zAt0, zAt1, zAt2, zAt3, zEAugL]) | simp only [Option.isNone_none, Option.isNone_some, zEAugT, List.isEmpty_nil, List.isEmpty_cons, zEIntCb, cut_63, decide_true, decide_false, List.cons_append, List.nil_append, List.length_map, List.length_range, Int.zero_add, Int.reduceAdd, Int.reduceSub, Int.reduceMul, cut_to, cut_fr, cut_fr1, cut_to1, cut_f1, cut_f2, cut_f3, cut_t1, cut_t2, cut_t3, cut_m1, List.drop_succ_cons, List.drop_zero, List.take_succ_cons, List.take_zero, List.drop_nil, List.take_nil, List.dropLast_cons_cons, List.dropLast_singleton, ← List.map_take, ← List.map_drop, Int.toNat_natCast, zEAugI, zGEq_int, zGEq_bl, dup_same, dup_dup, beq_self_eq_true, true_and, Bool.false_eq_true, if_false, if_true, decide_eq_true_eq, isiB, Bool.true_or, Bool.false_or, Bool.or_false, Bool.or_true, Bool.and_true, Bool.true_and, Bool.false_and, Bool.and_false, Bool.not_true, Bool.not_false, Bool.not_eq_true', decide_eq_false_iff_not, reduceCtorEq, Bool.or_eq_false_iff, Bool.or_eq_true, not_true_eq_false, not_false_eq_true, String.reduceBEq, zAt0, zAt1, zAt2, zAt3, zEAugL])
local macro_rules | `(tactic| walk_at "ws") => `(tactic| first | (with_reducible exact Sub.refl _) | (with_reducible assumption) | exact Prv.s (by with_reducible assumption) | ((refine Sub.trans (h1 := ?s1) ?g1 ?g2); (case g2 => with_reducible assumption); (case g1 => walk_at "ws")) | ((refine sub_dup0 ?g1 ?g2); (case g1 => walk_at "ws"); (case g2 => walk_at "wn")))
local macro_rules | `(tactic| walk_at "wn") => `(tactic| first | (with_reducible assumption) | ((refine Dis.at (h := ?s1) (o := ?s2) ?g1 ?g2); (case g1 => with_reducible assumption); (case g2 => walk_at "wh")) | ((refine Sub.fresh (h' := ?s1) ?g1 ?g2); (case g2 => with_reducible assumption); (case g1 => walk_at "ws")))
local macro_rules | `(tactic| walk_at "wh") => `(tactic| first | (with_reducible assumption) | (with_reducible exact dup_same) | ((refine sub_at (h := ?s1) ?g1 ?g2); (case g2 => with_reducible assumption); (case g1 => walk_at "ws")) | ((refine (dup_ne ?g1).trans ?g2); (case g1 => walk_at "wq"); (case g2 => walk_at "wh")) | ((refine sub_at (h := ?s1) ?g1 ?g2); (case g1 => with_reducible assumption); (case g2 => walk_at "wh")))
local macro_rules | `(tactic| walk_at "wh0") => `(tactic| first | (with_reducible assumption) | (with_reducible exact dup_same) | ((refine sub_at (h := ?s1) ?g1 ?g2); (case g2 => with_reducible assumption); (case g1 => walk_at "ws")))
local macro_rules | `(tactic| walk_at "wq") => `(tactic| first | (with_reducible assumption) | exact Ne.symm (by with_reducible assumption) | ((refine ne_fresh (h := ?s1) (o := ?s2) ?g1 ?g2); (case g2 => with_reducible assumption); (case g1 => walk_at "wh")) | ((refine Ne.symm (ne_fresh (h := ?s1) (o := ?s2) ?g1 ?g2)); (case g2 => with_reducible assumption); (case g1 => walk_at "wh")))
local macro_rules | `(tactic| walk_at "wi") => `(tactic| first | (with_reducible assumption) | walk_at "wix")
local macro_rules | `(tactic| walk_at "pl") => `(tactic| first | (with_reducible exact plI) | (with_reducible exact plNon) | ((with_reducible refine plS ?g1); (case g1 => decide +kernel)) | ((with_reducible refine plT ?g1); (case g1 => walk_at "pl")) | (with_reducible exact pl_nil) | (with_reducible exact pl_ints _) | ((with_reducible refine pl_cons ?g1 ?g2); (case g1 => walk_at "pl"); (case g2 => walk_at "pl")) | ((with_reducible refine pl_app ?g1 ?g2); (case g1 => walk_at "pl"); (case g2 => walk_at "pl")) | (with_reducible assumption) | walk_at "plx")
local macro_rules | `(tactic| walk_at "eq") => `(tactic| first | (with_reducible rfl) | assumption | (exact Eq.symm (by assumption)) | walk_at "eqx")
local macro_rules | `(tactic| walk_at "wd") => `(tactic| first | (with_reducible assumption) | omega | exact cdiv (by omega) (by omega) | exact cmulR (by omega) (by omega) | exact cmulL (by omega) (by omega) | walk_at "sz" | (with_reducible rfl) | ((with_reducible show List.length _ = _); rfl) | ((with_reducible show getElem? _ _ = some (some (D.ref _))); rfl) | ((with_reducible show @Eq (Option DO) _ _); walk_at "wh") | exact cpow_s (by omega) (by omega) (by omega) (by omega) | (with_reducible exact True.intro))
local macro_rules | `(tactic| walk_at "w1") => `(tactic| first
  | ((with_reducible refine seq_c fun _ _ => ?_))
  | ((with_reducible refine cont_go (s := ?s1) (E := ?s2) ?g1 ?g2); (case g1 => assumption))
  | walk_at "dw"
  | ((with_reducible refine newL_go ?_); intro _ _ _ _ _)
  | ((with_reducible refine gIx_i (xs := ?s1) ?g1 ?g2); (case g1 => walk_at "wh"))
  | ((with_reducible refine qat_i (d := ?s1) ?g1 ?g2); (case g1 => with_reducible first | assumption | exact zAt0 | exact zAt1 | exact zAt2 | exact zAt3))
  | ((with_reducible refine qat_dg (m := ?s1) ?g1 ?g2 ?g3 ?g4); (case g1 => assumption); (case g2 => omega); (case g3 => omega))
  | ((with_reducible refine ixQ_0 ?g1 ?g2); (case g1 => walk_at "sz"))
  | ((with_reducible refine ixQ_i (j := ?s1) ?g1 ?g2); (case g1 => first | assumption | exact ixN_nat (by walk_at "sz")))
  | ((with_reducible refine ixQ_n ?g1 ?g2 ?g3); (case g1 => omega); (case g2 => walk_at "sz"))
  | ((with_reducible refine lenQ_i (xs := ?s1) ?g1 ?g2); (case g1 => walk_at "wh"))
  | ((with_reducible refine lstQ_i (xs := ?s1) ?g1 ?g2); (case g1 => walk_at "wh"))
  | ((with_reducible refine And.intro (lstQ_i (xs := ?s1) ?g1 True.intro) ?g2); (case g1 => walk_at "wh"))
  | ((with_reducible refine srcQ_i (xs := ?s1) ?g1 ?g2); (case g1 => walk_at "wh"))
  | ((with_reducible refine itQ_i (xs := ?s1) ?g1 ?g2); (case g1 => walk_at "wh"))
  | ((with_reducible refine itQ_t ?_))
  | ((with_reducible refine itQ_s ?_))
  | ((with_reducible refine gSl_s ?_))
  | ((with_reducible refine srcQ_s ?_))
  | ((with_reducible refine gSl_i (xs := ?s1) ?g1 ?g2); (case g1 => walk_at "wh"))
  | ((with_reducible refine gRev_i (xs := ?s1) ?g1 ?g2); (case g1 => walk_at "wh"))
  | ((with_reducible refine gAddL_i (xs := ?s1) (ys := ?s2) ?g1 ?g2 ?g3 ?g4); (case g1 => walk_at "wh"); (case g2 => walk_at "wh"); (case g3 => walk_at "sz"))
  | ((with_reducible refine fld_i (C := ?s1) (fs := ?s2) (d := ?s3) ?g1 ?g2 ?g3 ?g4); (case g1 => walk_at "wh"); (case g2 => exact List.mem_singleton_self _); (case g3 => rfl))
  | ((with_reducible refine truL (xs := ?s1) ?g1 ?g2); (case g1 => walk_at "wh"))
  | ((with_reducible refine gTimesL_i (xs := ?s1) ?g1 ?g2 ?g3); (case g1 => walk_at "wh"); (case g2 => first | exact ⟨by decide, by decide, by decide⟩ | exact ⟨by omega, by omega, by walk_at "sz"⟩))
  | (with_reducible refine gInI2 ?_)
  | (with_reducible refine And.intro ref_ne_tup ?_)
  | (with_reducible refine And.intro sl_ne_tup ?_)
  | (with_reducible refine And.intro tup_ne_sl ?_)
  | (with_reducible refine And.intro ref_ne_sl ?_)
  | (with_reducible refine catch_i ?_)
  | ((with_reducible refine catch_a ?_); intro _)
  | ((with_reducible refine tyQ_i (xs := ?s1) ?g1 ?g2); (case g1 => walk_at "wh"))
  | ((with_reducible refine And.intro (insQ_i (fs := ?s1) ?g1 ?g2) ?g3); (case g1 => walk_at "wh"); (case g2 => rfl))
  | ((with_reducible refine fldS_i (C := ?s1) (fs := ?s2) ?g1 ?g2 ?g3 ?g4); (case g1 => walk_at "wh"); (case g2 => exact List.mem_singleton_self _); (case g3 => first | exact (show 0 < 1000 by decide) | exact (show 1 < 1000 by decide) | exact (show 2 < 1000 by decide) | exact (show 3 < 1000 by decide) | exact (show 4 < 1000 by decide) | exact (show 5 < 1000 by decide) | exact (show 6 < 1000 by decide)))
  | ((with_reducible refine allL_i (bs := ?s1) ?g1 ?g2); (case g1 => walk_at "wh0"))
  | ((with_reducible refine sum_i (ns := ?s1) ?g1 ?g2); (case g1 => walk_at "wh0"))
  | ((with_reducible refine gEqS_t ?g1 ?g2); (case g1 => decide +kernel))
  | ((with_reducible refine gEqS_f ?g1 ?g2 ?g3 ?g4); (case g1 => decide +kernel); (case g2 => decide +kernel); (case g3 => decide +kernel))
  | (with_reducible rw [if_pos (by walk_at "wd")])
  | (with_reducible rw [if_neg (by walk_at "wd")])
  | ((with_reducible refine geq_yes (n := 8) ?g1 ?g2 ?g3 ?g4); (case g1 => decide); (case g3 => walk_at "eq"); (case g2 => walk_at "pl"))
  | ((with_reducible refine geq_yesR (n := 8) ?g1 ?g2 ?g3 ?g4); (case g1 => decide); (case g3 => walk_at "eq"); (case g2 => walk_at "pl"))
  | ((with_reducible refine geqL_yes (n := 8) (xs := ?s1) (ys := ?s2) ?g1 ?g2 ?g3 ?g4 ?g5 ?g6); (case g1 => decide); (case g2 => walk_at "wh"); (case g3 => walk_at "wh"); (case g5 => walk_at "eq"); (case g4 => walk_at "pl"))
  | ((with_reducible refine geqL_yesR (n := 8) (xs := ?s1) (ys := ?s2) ?g1 ?g2 ?g3 ?g4 ?g5 ?g6); (case g1 => decide); (case g2 => walk_at "wh"); (case g3 => walk_at "wh"); (case g5 => walk_at "eq"); (case g4 => walk_at "pl"))
  | walk_at "wcall"
  | ((with_reducible refine And.intro ?g1 ?g2); (case g1 => walk_at "wd"))
  | walk_at "wlc"
  | ((with_reducible refine rx_go (Q := ?s1) (Qx := ?s2) ?g1 ?g2); (case g1 => assumption))
  | ((with_reducible refine nx_go (Q := ?s1) (Qx := ?s2) ?g1 ?g2); (case g1 => assumption))
  | ((with_reducible refine rt_sub (Q := ?s1) (Qx := ?s2) (h := ?s3) ?g1 ?g2 ?g3); (case g1 => assumption); (case g3 => assumption); (case g2 => walk_at "ws"))
  | ((with_reducible refine rt_go (Q := fun d _ => d = D.bl true) (Qx := fun _ _ => False) ?g1 (rfl : D.bl true = D.bl true)); (case g1 => with_reducible assumption))
  | (with_reducible intro _))
local macro_rules | `(tactic| walk_at "wlc") => `(tactic| first
  | ((with_reducible refine lc_upI (f := ?s1) ?g1 ?g2 ?g3 ?g4); (case g1 => (intro _ _; first | exact True.intro | walk_at "wh")); (case g2 => walk_at "sz"); (case g3 => (intro _ _ _ _ _ hR__; walk_at "w"; with_reducible exact hR__ _ (by walk_at "ws"))))
  | ((with_reducible refine lc_upB (f := ?s1) ?g1 ?g2 ?g3 ?g4); (case g1 => (intro _ _; first | exact True.intro | walk_at "wh")); (case g2 => walk_at "sz"); (case g3 => (intro _ _ _ _ _ hR__; walk_at "w"; with_reducible exact hR__ _ (by walk_at "ws"))))
  | ((with_reducible refine lc_up (f := ?s1) ?g1 ?g2 ?g3 ?g4); (case g1 => (intro _ _; first | exact True.intro | walk_at "wh")); (case g2 => walk_at "sz"); (case g3 => (intro _ _ _ _ _ hR__; walk_at "w"; with_reducible exact hR__ _ (by walk_at "ws")))))
local macro_rules | `(tactic| walk_at "w") => `(tactic| repeat walk_at "w1")
local macro_rules | `(tactic| walk_at "wf") => `(tactic| (refine def_c rfl fun _ _ => ?_; walk_at "en"; walk_at "w"))
local macro_rules | `(tactic| walk_at "wrt") => `(tactic| ((refine rt_go (Q := ?s1) (Qx := ?s2) ?g1 ?g2); (case g1 => assumption)))
/-- marks without the zeros at their end -/
def tz : List Int → List Int
  | [] => []
  | x :: xs => match tz xs with
    | [] => if 0 < x then [x] else []
    | y :: ys => x :: y :: ys
theorem tz_cons {x : Int} {xs : List Int} (h : tz xs ≠ []) : tz (x :: xs) = x :: tz xs := by
  rw [tz]; split
  · rename_i e; exact absurd e h
  · rename_i e; rw [e]
theorem tz_nil {x : Int} {xs : List Int} (h : tz xs = []) : tz (x :: xs) = if 0 < x then [x] else [] := by
  rw [tz, h]
def cz (ms : List Int) : Nat := ((List.range ms.length).filter fun k => decide (0 < maxI 0 (ms.drop k))).length
theorem maxI_pos : ∀ (ms : List Int) (n : Int), (0 < maxI n ms ↔ 0 < n ∨ ∃ x ∈ ms, 0 < x)
  | [], n => by simp [maxI]
  | x :: xs, n => by
    have e : maxI n (x :: xs) = maxI (max n x) xs := rfl
    rw [e, maxI_pos xs]
    have : 0 < max n x ↔ 0 < n ∨ 0 < x := by omega
    rw [this]
    simp [or_assoc]
theorem cz_cons {x : Int} {xs : List Int} : cz (x :: xs) = (if 0 < maxI 0 (x :: xs) then 1 else 0) + cz xs := by
  unfold cz
  rw [List.length_cons, List.range_succ_eq_map, List.filter_cons]
  have e2 : ((List.map Nat.succ (List.range xs.length)).filter fun k => decide (0 < maxI 0 ((x :: xs).drop k))).length = ((List.range xs.length).filter fun k => decide (0 < maxI 0 (xs.drop k))).length := by
    rw [List.filter_map, List.length_map]; rfl
  rw [List.drop_zero]
  split
  · rename_i q
    rw [if_pos (of_decide_eq_true q), List.length_cons, e2]; omega
  · rename_i q
    rw [if_neg (fun z => q (decide_eq_true z)), e2]; omega
theorem tz_empty : ∀ (ms : List Int), tz ms = [] ↔ ¬ ∃ x ∈ ms, 0 < x
  | [] => by simp [tz]
  | x :: xs => by
    by_cases h : tz xs = []
    · rw [tz_nil h]
      have i := (tz_empty xs).mp h
      by_cases q : 0 < x
      · simp [q]
      · simp only [if_neg q, true_iff]
        rintro ⟨y, hy, p⟩
        rcases List.mem_cons.mp hy with rfl | z
        · exact q p
        · exact i ⟨y, z, p⟩
    · rw [tz_cons h]
      have i : ∃ x ∈ xs, 0 < x := Classical.byContradiction fun z => h ((tz_empty xs).mpr z)
      obtain ⟨y, hy, p⟩ := i
      simp only [List.cons_ne_nil, false_iff]
      exact fun z => z ⟨y, List.mem_cons_of_mem _ hy, p⟩
theorem cz_zero {ms : List Int} (h : tz ms = []) : cz ms = 0 := by
  unfold cz
  rw [List.length_eq_zero_iff, List.filter_eq_nil_iff]
  intro k _ z
  have := of_decide_eq_true z
  rw [maxI_pos] at this
  rcases this with q | ⟨x, hx, p⟩
  · omega
  · exact (tz_empty ms).mp h ⟨x, List.mem_of_mem_drop hx, p⟩
theorem take_cz : ∀ (ms : List Int), ms.take (cz ms) = tz ms
  | [] => rfl
  | x :: xs => by
    by_cases h : tz xs = []
    · rw [tz_nil h, cz_cons, cz_zero h]
      have i := (tz_empty xs).mp h
      have : 0 < maxI 0 (x :: xs) ↔ 0 < x := by
        rw [maxI_pos]
        constructor
        · rintro (q | ⟨y, hy, p⟩)
          · omega
          · rcases List.mem_cons.mp hy with rfl | z
            · exact p
            · exact absurd ⟨y, z, p⟩ i
        · exact fun q => .inr ⟨x, List.mem_cons_self, q⟩
      by_cases q : 0 < x
      · rw [if_pos (this.mpr q), if_pos q]; rfl
      · rw [if_neg (fun z => q (this.mp z)), if_neg q]; rfl
    · have i : ∃ x ∈ xs, 0 < x := Classical.byContradiction fun z => h ((tz_empty xs).mpr z)
      obtain ⟨y, hy, p⟩ := i
      rw [tz_cons h, cz_cons, if_pos ((maxI_pos _ _).mpr (.inr ⟨y, List.mem_cons_of_mem _ hy, p⟩)), Nat.add_comm, List.take_succ_cons, take_cz xs]
theorem tz_le (ms : List Int) : (tz ms).length ≤ ms.length := by rw [← take_cz, List.length_take]; omega
theorem tz_mem {ms : List Int} {x : Int} (h : x ∈ tz ms) : x ∈ ms := by rw [← take_cz] at h; exact List.mem_of_mem_take h
theorem tz_append_zero : ∀ (l : List Int), tz (l ++ [0]) = tz l
  | [] => rfl
  | x :: xs => by
    rw [List.cons_append]
    have i := tz_append_zero xs
    by_cases h : tz xs = []
    · rw [tz_nil h, tz_nil (by rw [i]; exact h)]
    · rw [tz_cons h, tz_cons (by rw [i]; exact h), i]
theorem tz_append_pos {y : Int} (hy : 0 < y) : ∀ (l : List Int), tz (l ++ [y]) = l ++ [y]
  | [] => by rw [List.nil_append, tz_nil rfl, if_pos hy]
  | x :: xs => by
    rw [List.cons_append, tz_cons (by rw [tz_append_pos hy xs]; simp), tz_append_pos hy xs]
/-- marks of a side: of m marks, none of them a zero at the end -/
def SideOk (m : Int) (ms : List Int) : Prop := (∀ x ∈ ms, 0 ≤ x ∧ x < m) ∧ tz ms = ms
theorem tz_tz : ∀ (ms : List Int), tz (tz ms) = tz ms
  | [] => rfl
  | x :: xs => by
    by_cases h : tz xs = []
    · rw [tz_nil h]
      by_cases q : 0 < x
      · rw [if_pos q, tz_nil (by rfl), if_pos q]
      · rw [if_neg q]; rfl
    · rw [tz_cons h, tz_cons (by rw [tz_tz xs]; exact h), tz_tz xs]
theorem side_tz {m : Int} {ms : List Int} (h : ∀ x ∈ ms, 0 ≤ x ∧ x < m) : SideOk m (tz ms) := ⟨fun x hx => h x (tz_mem hx), tz_tz ms⟩
theorem tail_tz {l : List Int} (hl : tz l = l) : tz l.tail = l.tail := by
  cases l with
  | nil => rfl
  | cons x xs =>
    by_cases h : tz xs = []
    · rw [tz_nil h] at hl
      by_cases q : 0 < x
      · rw [if_pos q] at hl; obtain ⟨_, e⟩ := List.cons.inj hl; subst e; rfl
      · rw [if_neg q] at hl; cases hl
    · rw [tz_cons h] at hl
      exact (List.cons.inj hl).2
/-! a tape machine's steps -/
def push (x : Int) (l : List Int) : List Int := if l = [] ∧ x = 0 then [] else x :: l
def popM : List Int → Int
  | [] => 0
  | x :: _ => x
theorem push_tz {x : Int} {l : List Int} (h0 : 0 ≤ x) (hl : tz l = l) : tz (x :: l) = push x l := by
  unfold push
  by_cases e : l = []
  · subst e
    rw [tz_nil rfl]
    by_cases q : x = 0
    · subst q; rfl
    · rw [if_pos (by omega), if_neg (fun z => q z.2)]
  · rw [tz_cons (by rw [hl]; exact e), hl, if_neg (fun z => e z.1)]
theorem push_side {m x : Int} {l : List Int} (h0 : 0 ≤ x) (h1 : x < m) (hl : SideOk m l) : SideOk m (push x l) := by
  rw [← push_tz h0 hl.2]
  exact side_tz fun y hy => by
    rcases List.mem_cons.mp hy with rfl | z
    · exact ⟨h0, h1⟩
    · exact hl.1 y z
theorem tail_side {m : Int} {l : List Int} (hl : SideOk m l) : SideOk m l.tail := ⟨fun x hx => hl.1 x (List.mem_of_mem_tail hx), tail_tz hl.2⟩
theorem pop_ok {m : Int} {l : List Int} (hm : 2 ≤ m) (hl : SideOk m l) : 0 ≤ popM l ∧ popM l < m := by
  cases l with
  | nil => exact ⟨Int.le_refl _, by show (0 : Int) < m; omega⟩
  | cons x xs => exact hl.1 x List.mem_cons_self
theorem push_len {x : Int} {l : List Int} : (push x l).length ≤ l.length + 1 := by
  unfold push; split
  · simp
  · simp
theorem rev_push {x : Int} {l : List Int} (h : ¬ (l = [] ∧ x = 0)) : (l.map D.int).reverse ++ [D.int x] = ((push x l).map D.int).reverse := by
  unfold push
  rw [if_neg h]
  simp
theorem rev_pop {x : Int} {xs : List Int} : (((x :: xs).map D.int).reverse).dropLast = (xs.map D.int).reverse := by
  rw [List.map_cons, List.reverse_cons, List.dropLast_concat]
theorem rev_last {x : Int} {xs : List Int} : (((x :: xs).map D.int).reverse)[(((x :: xs).map D.int).reverse).length - 1]? = some (.int x) := by
  rw [List.map_cons, List.reverse_cons, List.length_append, List.length_singleton, Nat.add_sub_cancel, List.getElem?_append_right (Nat.le_refl _), Nat.sub_self]; rfl
theorem dup_id {h : DH} {a : Addr} {o : DO} (e : h a = some o) : dup h a o = h := by
  funext b
  by_cases q : b = a
  · subst q; rw [dup_same, e]
  · rw [dup_ne q]
theorem dup_swap {h : DH} {a b : Addr} {o u : DO} (n : a ≠ b) : dup (dup h a o) b u = dup (dup h b u) a o := by
  funext c
  by_cases ca : c = a
  · subst ca; rw [dup_ne n, dup_same, dup_same]
  · by_cases cb : c = b
    · subst cb; rw [dup_same, dup_ne ca, dup_same]
    · rw [dup_ne cb, dup_ne ca, dup_ne ca, dup_ne cb]
/-- what was made first is forgotten -/
theorem sub_last {h : DH} {a b : Addr} {o u : DO} (fa : h a = none) (fb : dup h a o b = none) : Sub (dup h b u) (dup (dup h a o) b u) := by
  have n : a ≠ b := ne_fresh (dup_same (h := h) (o := o)) fb
  rw [dup_swap n]
  exact Sub.new (by rw [dup_ne n]; exact fa)
theorem free_of {h : DH} {a b : Addr} {o : DO} (fa : h a = none) (fb : dup h a o b = none) : h b = none := (Sub.new fa).fresh fb
theorem dup3 {h : DH} {a b : Addr} {o u v : DO} (n : a ≠ b) : dup (dup (dup h a o) b u) a v = dup (dup h a v) b u := by
  rw [dup_swap n, dup_dup, dup_swap (Ne.symm n)]
theorem cmulW {i j : Int} (h0 : 0 ≤ j) (h1 : j < 1152921504606846976) : CMul i j := .inr (by
  have : (2 : Int) ^ 64 = 18446744073709551616 := by decide
  omega)
theorem lc_map {p : Addr} {gd : DH → Prop} {i : Nat} {we : WE} {env : Ev} {h : DH} {Q : DH → Prop} {xs : List D} (f : Nat → D) (hl : xs.length < sizeLine) (hgd : ∀ l, gd (dup h p (.lst l)))
    (hs : ∀ (j : Nat) (x : D) (l : List D) (R : D → DH → Prop), xs[j]? = some x → R (f j) (dup h p (.lst l)) → we (env.set i (some x)) (dup h p (.lst l)) R (fun _ _ => False))
    (q : Q (dup h p (.lst ((List.range xs.length).map f)))) : lcW p gd i wYes we env Q xs (dup h p (.lst [])) := by
  refine lc_i (fun j hh => hh = dup h p (.lst ((List.range j).map f)) ∧ j ≤ xs.length) ?_ ?_ _ ⟨rfl, Nat.zero_le _⟩
  · rintro hh ⟨rfl, _⟩; exact q
  · rintro j x hh N2 hx ⟨rfl, hj⟩ hN2
    have hj' : j < xs.length := (List.getElem?_eq_some_iff.mp hx).1
    rw [zEYes, if_pos rfl]
    refine hs j x _ _ hx (lstQ_i dup_same ⟨?_, ?_⟩)
    · rw [List.length_map, List.length_range]; omega
    · rw [dup_dup]
      refine ⟨hgd _, hN2 _ ⟨?_, hj'⟩⟩
      rw [List.range_succ, List.map_append]; rfl
theorem sub_dup {h hh : DH} {p : Addr} {o : DO} (s : Sub h hh) (f : h p = none) : Sub h (dup hh p o) := fun a u e => by
  rw [dup_ne (ne_fresh e f)]; exact s a u e
def IsBits (l : List Int) : Prop := ∀ x ∈ l, x = 0 ∨ x = 1
theorem IsBits.nn {l : List Int} (h : IsBits l) : ∀ x ∈ l, 0 ≤ x := fun x hx => by rcases h x hx with e | e <;> omega
theorem IsBits.tl {x : Int} {l : List Int} (h : IsBits (x :: l)) : IsBits l := fun y hy => h y (List.mem_cons_of_mem _ hy)
theorem IsBits.cons {x : Int} {l : List Int} (hx : x = 0 ∨ x = 1) (h : IsBits l) : IsBits (x :: l) := fun y hy => by
  rcases List.mem_cons.mp hy with rfl | q
  · exact hx
  · exact h y q
theorem IsBits.tz {l : List Int} (h : IsBits l) : IsBits (My.tz l) := fun y hy => h y (tz_mem hy)
/-- the number of a stack -/
def val : List Int → Nat
  | [] => 0
  | b :: bs => b.toNat + 2 * val bs
/-- the stack of a number -/
def bitsOf : Nat → List Int
  | 0 => []
  | n + 1 => (((n + 1) % 2 : Nat) : Int) :: bitsOf ((n + 1) / 2)
termination_by n => n
decreasing_by omega
theorem bitsOf_pos {n : Nat} (h : 0 < n) : bitsOf n = ((n % 2 : Nat) : Int) :: bitsOf (n / 2) := by
  cases n with
  | zero => omega
  | succ n => rw [bitsOf]
theorem bitsOf_zero : bitsOf 0 = [] := by rw [bitsOf]
theorem bitsOf_bits (n : Nat) : IsBits (bitsOf n) := by
  induction n using Nat.strongRecOn with
  | ind n ih =>
    by_cases h : n = 0
    · subst h; rw [bitsOf_zero]; exact fun _ z => (nomatch z)
    · rw [bitsOf_pos (by omega)]
      exact .cons (by omega) (ih _ (by omega))
theorem val_bitsOf (n : Nat) : val (bitsOf n) = n := by
  induction n using Nat.strongRecOn with
  | ind n ih =>
    by_cases h : n = 0
    · subst h; rw [bitsOf_zero]; rfl
    · rw [bitsOf_pos (by omega), val, ih _ (by omega), Int.toNat_natCast]
      omega
theorem bitsOf_two {n b : Nat} (hb : b ≤ 1) : bitsOf (2 * n + b) = tz ((b : Int) :: bitsOf n) := by
  by_cases h : n = 0
  · subst h
    rw [bitsOf_zero, tz_nil (by rfl)]
    rcases (by omega : b = 0 ∨ b = 1) with rfl | rfl
    · rw [if_neg (by decide)]; exact bitsOf_zero
    · rw [if_pos (by decide), bitsOf_pos (by omega)]; exact congrArg _ bitsOf_zero
  · rw [bitsOf_pos (by omega), show (2 * n + b) % 2 = b by omega, show (2 * n + b) / 2 = n by omega]
    have e : tz (bitsOf n) = bitsOf n := by
      clear hb b
      induction n using Nat.strongRecOn with
      | ind n ih =>
        rw [bitsOf_pos (by omega)]
        by_cases q : n / 2 = 0
        · rw [q, bitsOf_zero, tz_nil (by rfl), if_pos (by omega)]
        · have := ih (n / 2) (by omega) q
          rw [tz_cons (by rw [this, bitsOf_pos (by omega)]; simp), this]
    rw [tz_cons (by rw [e, bitsOf_pos (by omega)]; simp), e]
theorem tz_bitsOf (n : Nat) : tz (bitsOf n) = bitsOf n := by
  have e := bitsOf_two (n := n / 2) (b := n % 2) (by omega)
  rw [show 2 * (n / 2) + n % 2 = n by omega] at e
  rw [e, tz_tz]
theorem bitsOf_val : ∀ {l : List Int}, IsBits l → tz l = l → bitsOf (val l) = l
  | [], _, _ => bitsOf_zero
  | x :: xs, hb, ht => by
    have hx : x = ((x.toNat : Nat) : Int) := by rcases hb x List.mem_cons_self with e | e <;> omega
    have h1 : x.toNat ≤ 1 := by rcases hb x List.mem_cons_self with e | e <;> omega
    have htl : tz xs = xs := tail_tz ht
    rw [val, Nat.add_comm, bitsOf_two h1, bitsOf_val hb.tl htl, ← hx, ht]
theorem val_tz : ∀ {l : List Int}, IsBits l → val (tz l) = val l
  | [], _ => rfl
  | x :: xs, hb => by
    have ih := val_tz hb.tl
    by_cases h : tz xs = []
    · rw [tz_nil h]
      rw [h] at ih
      have : val xs = 0 := ih.symm
      rcases hb x List.mem_cons_self with e | e
      · subst e; rw [if_neg (by decide)]; show 0 = (0 : Int).toNat + 2 * val xs; rw [this]; rfl
      · subst e; rw [if_pos (by decide)]; show (1 : Int).toNat + 2 * 0 = (1 : Int).toNat + 2 * val xs; rw [this]
    · rw [tz_cons h, val, val, ih]
theorem val_append : ∀ (a b : List Int), val (a ++ b) = val a + 2 ^ a.length * val b
  | [], b => by show val b = 0 + 1 * val b; omega
  | x :: a, b => by
    rw [List.cons_append, val, val, val_append a b, List.length_cons, Nat.pow_succ, Nat.mul_add, ← Nat.mul_assoc, Nat.mul_comm 2 (2 ^ a.length)]; omega
theorem val_lt : ∀ {l : List Int}, IsBits l → val l < 2 ^ l.length
  | [], _ => by decide
  | x :: xs, hb => by
    have := val_lt hb.tl
    rw [val, List.length_cons, Nat.pow_succ]
    rcases hb x List.mem_cons_self with e | e <;> (subst e; simp; omega)
theorem bitsOf_len (n : Nat) : (bitsOf n).length = Builtin.Int.intBits (n : Int) := by
  induction n using Nat.strongRecOn with
  | ind n ih =>
    by_cases h : n = 0
    · subst h; rw [bitsOf_zero]; rfl
    · rw [bitsOf_pos (by omega), List.length_cons, ih _ (by omega)]
      unfold Builtin.Int.intBits
      have e1 : ((n : Int) == 0) = false := by simpa using h
      rw [e1, Int.natAbs_natCast, Int.natAbs_natCast]
      by_cases q : n = 1
      · subst q; rfl
      · have e2 : (((n / 2 : Nat) : Int) == 0) = false := by
          rw [beq_eq_false_iff_ne]; omega
        rw [e2]
        show (if false = true then 0 else (n / 2).log2 + 1) + 1 = (if false = true then 0 else n.log2 + 1)
        rw [if_neg Bool.false_ne_true, if_neg Bool.false_ne_true, Nat.log2_def n, if_pos (by omega)]
theorem bitsOf_get : ∀ (n k : Nat), k < (bitsOf n).length → (bitsOf n)[k]? = some (((n / 2 ^ k) % 2 : Nat) : Int)
  | n, k, h => by
    by_cases h0 : n = 0
    · subst h0; rw [bitsOf_zero] at h; simp at h
    · rw [bitsOf_pos (by omega)] at h ⊢
      cases k with
      | zero => simp
      | succ k =>
        rw [List.length_cons] at h
        rw [List.getElem?_cons_succ, bitsOf_get (n / 2) k (by omega), Nat.div_div_eq_div_mul, Nat.pow_succ, Nat.mul_comm]
termination_by n k => k
theorem band1 {n : Nat} : Builtin.bitAnd (n : Int) 1 = ((n % 2 : Nat) : Int) := by
  unfold Builtin.bitAnd
  have h1 : decide (0 ≤ (n : Int)) = true := decide_eq_true (by omega)
  have h2 : decide ((0 : Int) ≤ 1) = true := rfl
  rw [h1, h2]
  show (((n : Int).toNat &&& (1 : Int).toNat : Nat) : Int) = _
  rw [Int.toNat_natCast, show (1 : Int).toNat = 1 from rfl, Nat.and_one_is_mod]
theorem bitsOf_map (n : Nat) : ((List.range (Builtin.Int.intBits (n : Int))).map fun k => Builtin.bitAnd ((n : Int) / 2 ^ k) 1) = bitsOf n := by
  refine List.ext_getElem? fun k => ?_
  rw [← bitsOf_len, List.getElem?_map]
  by_cases h : k < (bitsOf n).length
  · rw [List.getElem?_range h, bitsOf_get n k h, Option.map_some]
    rw [show ((n : Int) / 2 ^ k) = ((n / 2 ^ k : Nat) : Int) by push_cast; rfl, band1]
  · rw [List.getElem?_eq_none (by rw [List.length_range]; omega), List.getElem?_eq_none (by omega)]; rfl
theorem val_half (n : Nat) : val (bitsOf n).tail = n / 2 := by
  by_cases h : n = 0
  · subst h; rw [bitsOf_zero]; rfl
  · rw [bitsOf_pos (by omega), List.tail_cons, val_bitsOf]
theorem tz_take_step {ms : List Int} {i : Nat} (hi : i < ms.length) (hp : ∀ x ∈ ms, 0 ≤ x) : tz (ms.take (i + 1)) = if ms[i] = 0 then tz (ms.take i) else ms.take (i + 1) := by
  have et : ms.take (i + 1) = ms.take i ++ [ms[i]] := by rw [List.take_succ, List.getElem?_eq_getElem hi]; rfl
  have h0 := hp _ (List.getElem_mem hi)
  split
  · rename_i z; rw [et, z, tz_append_zero]
  · rename_i z; rw [et, tz_append_pos (by omega)]
theorem tz_pre (ms : List Int) : tz ms = ms.take (tz ms).length := by
  have := take_cz ms
  rw [← this, List.length_take]
  rcases Nat.le_total (cz ms) ms.length with q | q
  · rw [Nat.min_eq_left q]
  · rw [Nat.min_eq_right q, List.take_of_length_le q, List.take_of_length_le (Nat.le_refl _)]
theorem trimmedL_ok (T : Tx K mg) {h : DH} {Q : QD} {Qx : QX} {ms : List Int} (hl : ms.length ≤ 100000) (hp : ∀ x ∈ ms, 0 ≤ x) (q : Q (.tup ((tz ms).map D.int)) h) : W_law_trimmed T [.tup (ms.map D.int)] h Q Qx := by
  walk_at "df"
  rw [List.length_map, Int.toNat_natCast]
  refine for_up (fun i env hh => hh = h ∧ ∃ o, env = [some (.tup (ms.map D.int)), some (.int (tz (ms.take i)).length), o]) ?_ ?_ ⟨rfl, none, rfl⟩
  · rintro env hh ⟨rfl, o, rfl⟩
    walk_at "go"
    rw [cut_to, List.take_length, ← List.map_take, ← tz_pre]
    walk_at "rt"
  · rintro i env hh N hi ⟨rfl, o, rfl⟩ hN
    have e1 : atI (ms.map D.int) (i : Nat) = some (.int ms[i]) := by rw [atN, List.getElem?_map, List.getElem?_eq_getElem hi]; rfl
    walk_at "go"
    have e2 := tz_take_step hi hp
    split
    · rename_i z
      rw [if_neg z] at e2
      refine hN _ _ ⟨rfl, _, by rw [e2, List.length_take, Nat.min_eq_left (by omega)]; rfl⟩
    · rename_i z
      rw [if_pos (Classical.not_not.mp z)] at e2
      exact hN _ _ ⟨rfl, _, by rw [e2]⟩
/-- the same of a list -/
theorem trimmedR_ok (T : Tx K mg) {h : DH} {Q : QD} {Qx : QX} {p : Addr} {ms : List Int} (ep : h p = some (.lst (ms.map D.int))) (hl : ms.length ≤ 100000) (hp : ∀ x ∈ ms, 0 ≤ x) (q : Q (.tup ((tz ms).map D.int)) h) : W_law_trimmed T [.ref p] h Q Qx := by
  walk_at "df"
  rw [List.length_map, Int.toNat_natCast]
  refine for_up (fun i env hh => hh = h ∧ ∃ o, env = [some (.ref p), some (.int (tz (ms.take i)).length), o]) ?_ ?_ ⟨rfl, none, rfl⟩
  · rintro env hh ⟨rfl, o, rfl⟩
    walk_at "go"
    rw [cut_to, List.take_length, ← List.map_take, ← tz_pre]
    intro p1 f1
    walk_at "go"
    walk_at "rt"
  · rintro i env hh N hi ⟨rfl, o, rfl⟩ hN
    have e1 : atI (ms.map D.int) (i : Nat) = some (.int ms[i]) := by rw [atN, List.getElem?_map, List.getElem?_eq_getElem hi]; rfl
    walk_at "go"
    have e2 := tz_take_step hi hp
    split
    · rename_i z
      rw [if_neg z] at e2
      refine hN _ _ ⟨rfl, _, by rw [e2, List.length_take, Nat.min_eq_left (by omega)]; rfl⟩
    · rename_i z
      rw [if_pos (Classical.not_not.mp z)] at e2
      exact hN _ _ ⟨rfl, _, by rw [e2]⟩
def Dr (ds : List Int) : Prop := ∀ d ∈ ds, 0 ≤ d ∧ d < 65537
theorem Dr.snoc {ds : List Int} {z : Int} (h : Dr ds) (a : 0 ≤ z) (b : z < 65537) : Dr (ds ++ [z]) := by
  intro d hd
  rcases List.mem_append.mp hd with q | q
  · exact h d q
  · rw [List.mem_singleton.mp q]; exact ⟨a, b⟩
theorem Dr.get {ds : List Int} (h : Dr ds) {i : Nat} (hi : i < ds.length) : 0 ≤ ds[i] ∧ ds[i] < 65537 := h _ (List.getElem_mem hi)
theorem draws_ok (T : Tx K mg) {h : DH} {Q : QD} {Qx : QX} {ns : List Int} {m : Nat} (hl : ns.length ≤ 63) (hm : m ≤ 1000)
    (q : ∀ p ds, h p = none → ds.length = m → Dr ds → Q (.ref p) (dup h p (.lst (ds.map D.int)))) : W_law_draws T [.sl (ns.map D.int), .int (m : Nat)] h Q Qx := by
  walk_at "df"
  intro p f
  walk_at "go"
  rw [show (63 : Int) = ((63 : Nat) : Int) from rfl, cut_to, List.take_of_length_le (by rw [List.length_map]; exact hl)]
  intro p2 f2
  walk_at "go"
  have n : p ≠ p2 := ne_fresh (dup_same (h := h) (o := .lst [])) f2
  refine for_ix (fun i env hh => ∃ (ds : List Int) (a : Int) (o4 o5 o6 : Option D), env = [some (.sl (ns.map D.int)), some (.int (m : Nat)), some (.ref p), some (.int a), o4, o5, o6] ∧ hh = dup (dup h p (.lst (ds.map D.int))) p2 (.lst (ns.map D.int)) ∧ Dr ds ∧ ds.length ≤ 24 * i) ?_ ?_ _ _ ⟨[], 0, none, none, none, rfl, rfl, fun _ z => (nomatch z), Nat.le_refl _⟩
  · rintro env hh ⟨ds, a, o4, o5, o6, rfl, rfl, hd, hz⟩
    rw [List.length_map] at hz
    walk_at "go"
    rw [Int.toNat_natCast]
    refine for_up (fun i env hh => ∃ (ds : List Int) (o6 : Option D), env = [some (.sl (ns.map D.int)), some (.int (m : Nat)), some (.ref p), some (.int a), o4, o5, o6] ∧ hh = dup (dup h p (.lst (ds.map D.int))) p2 (.lst (ns.map D.int)) ∧ Dr ds ∧ ds.length ≤ 2000 + i ∧ (i ≤ ds.length)) ?_ ?_ ⟨ds, o6, rfl, rfl, hd, by omega, Nat.zero_le _⟩
    · rintro env hh ⟨ds, o6, rfl, rfl, hd, hz, hz2⟩
      walk_at "go"
      rw [cut_to, ← List.map_take]
      intro p3 f3
      have f3' : h p3 = none := free_of f (free_of (by rw [dup_ne (Ne.symm n)]; rw [dup_ne (Ne.symm n)] at f2; exact f2) f3)
      have n3 : p ≠ p3 := ne_fresh (by walk_at "hp") f3
      have n4 : p2 ≠ p3 := ne_fresh dup_same f3
      refine rt_sub (by assumption) ?_ (q p3 (ds.take m) f3' (by rw [List.length_take]; omega) fun d hd' => hd d (List.mem_of_mem_take hd'))
      rw [dup_swap n4, dup_swap n3]
      exact (Sub.new (by rw [dup_ne n3]; exact f)).trans (Sub.new (by rw [dup_ne (Ne.symm n), dup_ne n4]; rw [dup_ne (Ne.symm n)] at f2; exact f2))
    · rintro i env hh N hi ⟨ds, o6, rfl, rfl, hd, hz, hz2⟩ hN
      walk_at "go"
      split
      · walk_at "go"
        refine hN _ _ ⟨ds ++ [(((ds.map D.int).length : Nat) * 69621 + 977 * a + (i : Nat) * (i : Nat) * 31) % 65521], _, rfl, ?_, hd.snoc (Int.emod_nonneg _ (by omega)) (Int.lt_trans (Int.emod_lt_of_pos _ (by decide)) (by decide)), ?_, ?_⟩
        · rw [dup3 n, List.map_append]; rfl
        · rw [List.length_append, List.length_singleton]; omega
        · rw [List.length_append, List.length_singleton]; omega
      · rename_i z
        rw [List.length_map] at z
        exact hN _ _ ⟨ds, _, rfl, rfl, hd, by omega, by omega⟩
  · rintro i x env hh N hx ⟨ds, a, o4, o5, o6, rfl, rfl, hd, hz⟩ hN
    rw [List.getElem?_map] at hx
    obtain ⟨c, hc, rfl⟩ := Option.map_eq_some_iff.mp hx
    have hi : i < ns.length := (List.getElem?_eq_some_iff.mp hc).1
    walk_at "go"
    have hc0 : 0 ≤ if c < 0 then -c else c := by split <;> omega
    generalize (if c < 0 then -c else c) = c0 at hc0 ⊢
    rw [show (10 : Int) ^ Int.toNat 18 = 1000000000000000000 by decide]
    split
    · walk_at "go"
      refine for_up (fun j env hh => ∃ (ds : List Int) (c0 : Int) (o6 : Option D), env = [some (.sl (ns.map D.int)), some (.int (m : Nat)), some (.ref p), some (.int a), some (.int c), some (.int c0), o6] ∧ hh = dup (dup h p (.lst (ds.map D.int))) p2 (.lst (ns.map D.int)) ∧ Dr ds ∧ ds.length ≤ 24 * i + j) ?_ ?_ ⟨ds, c0, o6, rfl, rfl, hd, hz⟩
      · rintro env hh ⟨ds, c0, o6, rfl, rfl, hd, hz⟩
        walk_at "go"
        exact hN _ _ dup_same ⟨ds, _, _, _, _, rfl, rfl, hd, by omega⟩
      · rintro j env hh N2 hj ⟨ds, c0, o6, rfl, rfl, hd, hz⟩ hN2
        have : j < 24 := hj
        walk_at "go"
        split
        · walk_at "go"
          refine hN2 _ _ ⟨ds ++ [c0 % 1009], _, _, rfl, ?_, hd.snoc (Int.emod_nonneg _ (by omega)) (Int.lt_trans (Int.emod_lt_of_pos _ (by decide)) (by decide)), ?_⟩
          · rw [dup3 n, List.map_append]; rfl
          · rw [List.length_append, List.length_singleton]; omega
        · exact hN2 _ _ ⟨ds, _, _, rfl, rfl, hd, by omega⟩
    · walk_at "go"
      refine ⟨cmulW hc0 (by omega), ?_⟩
      rw [dup3 n]
      walk_at "go"
      rw [dup3 n]
      refine hN _ _ dup_same ⟨ds ++ [(c0 * 48271 + a * 69621 + 11) % 65537] ++ [(c0 * 16807 + a * 40692 + 7 + c0 * c0) % 65521], _, _, _, _, rfl, ?_, (hd.snoc (Int.emod_nonneg _ (by omega)) (Int.emod_lt_of_pos _ (by decide))).snoc (Int.emod_nonneg _ (by omega)) (Int.lt_trans (Int.emod_lt_of_pos _ (by decide)) (by decide)), ?_⟩
      · rw [List.map_append, List.map_append]; rfl
      · simp only [List.length_append, List.length_singleton]; omega
theorem iswhole_int (T : Tx K mg) {h : DH} {Q : QD} {Qx : QX} {i : Int} (q : Q (.bl true) h) : W_is_whole T [.int i] h Q Qx := by
  walk_at "df"
  try simp
  walk_at "rt"
theorem iswhole_bl (T : Tx K mg) {h : DH} {Q : QD} {Qx : QX} {b : Bool} (q : Q (.bl false) h) : W_is_whole T [.bl b] h Q Qx := by
  walk_at "df"
  try simp
  walk_at "rt"
theorem iswhole_str (T : Tx K mg) {h : DH} {Q : QD} {Qx : QX} {b : Str} (q : Q (.bl false) h) : W_is_whole T [.str b] h Q Qx := by
  walk_at "df"
  try simp
  walk_at "rt"
theorem iswhole_tup (T : Tx K mg) {h : DH} {Q : QD} {Qx : QX} {b : List D} (q : Q (.bl false) h) : W_is_whole T [.tup b] h Q Qx := by
  walk_at "df"
  try simp
  walk_at "rt"
theorem iswhole_non (T : Tx K mg) {h : DH} {Q : QD} {Qx : QX} (q : Q (.bl false) h) : W_is_whole T [.non] h Q Qx := by
  walk_at "df"
  try simp
  walk_at "rt"
theorem isnum_int (T : Tx K mg) {h : DH} {Q : QD} {Qx : QX} {i a b : Int} (q : Q (.bl (decide (a ≤ i ∧ i ≤ b))) h) : W_is_number T [.int i, .int a, .int b] h Q Qx := by
  walk_at "df"
  refine iswhole_int T ?_
  walk_at "go"
  split
  · rename_i z
    rw [show decide (a ≤ i ∧ i ≤ b) = decide (i ≤ b) by simp [z]] at q
    walk_at "rt"
  · rename_i z
    rw [show decide (a ≤ i ∧ i ≤ b) = false by simp [z]] at q
    walk_at "rt"
theorem isnum_bl (T : Tx K mg) {h : DH} {Q : QD} {Qx : QX} {v : Bool} {a b : D} (q : Q (.bl false) h) : W_is_number T [.bl v, a, b] h Q Qx := by
  walk_at "df"
  refine iswhole_bl T ?_
  walk_at "go"
  walk_at "rt"
theorem isnum_str (T : Tx K mg) {h : DH} {Q : QD} {Qx : QX} {v : Str} {a b : D} (q : Q (.bl false) h) : W_is_number T [.str v, a, b] h Q Qx := by
  walk_at "df"
  refine iswhole_str T ?_
  walk_at "go"
  walk_at "rt"
theorem isnum_tup (T : Tx K mg) {h : DH} {Q : QD} {Qx : QX} {v : List D} {a b : D} (q : Q (.bl false) h) : W_is_number T [.tup v, a, b] h Q Qx := by
  walk_at "df"
  refine iswhole_tup T ?_
  walk_at "go"
  walk_at "rt"
theorem isnum_non (T : Tx K mg) {h : DH} {Q : QD} {Qx : QX} {a b : D} (q : Q (.bl false) h) : W_is_number T [.non, a, b] h Q Qx := by
  walk_at "df"
  refine iswhole_non T ?_
  walk_at "go"
  walk_at "rt"
local macro_rules | `(tactic| walk_at "call") => `(tactic| (with_reducible refine isnum_int _ ?_))
local macro_rules | `(tactic| walk_at "call") => `(tactic| (with_reducible refine isnum_bl _ ?_))
local macro_rules | `(tactic| walk_at "call") => `(tactic| (with_reducible refine isnum_str _ ?_))
local macro_rules | `(tactic| walk_at "call") => `(tactic| (with_reducible refine isnum_tup _ ?_))
local macro_rules | `(tactic| walk_at "call") => `(tactic| (with_reducible refine isnum_non _ ?_))
/-- a row of a stack machine: push or not, stack, third, state -/
abbrev SRw := Option (Bool × Int × Int × Int)
def wordD (b : Bool) : D := .str (if b = true then "push" else "pop")
def srD : SRw → D
  | none => .non
  | some (b, i, t, u) => .tup [wordD b, .int i, .int t, .int u]
def SOk (s : Int) : SRw → Prop
  | none => True
  | some (b, i, t, u) => (i = 0 ∨ i = 1) ∧ (0 ≤ u ∧ u < s) ∧ (if b = true then t = 0 ∨ t = 1 else 0 ≤ t ∧ t < s)
def IsStacks (T : Tx K mg) (h : DH) (p : Addr) (rs : List SRw) : Prop := ∃ rp, h p = some (.ins T.C_Stacks [("states", .int (rs.length : Nat)), ("_rows", .ref rp)]) ∧ h rp = some (.lst (rs.map srD))
theorem IsStacks.sub {T : Tx K mg} {h h' : DH} {p : Addr} {rs : List SRw} (i : IsStacks T h p rs) (s : DL.Sub h h') : IsStacks T h' p rs := by
  obtain ⟨rp, a, b⟩ := i
  exact ⟨rp, s _ _ a, s _ _ b⟩
theorem srow_at {rs : List SRw} {i : Nat} (hi : i < rs.length) : atI (rs.map srD) (i : Nat) = some (srD rs[i]) := by rw [atN, List.getElem?_map, List.getElem?_eq_getElem hi]; rfl
theorem srow_ge {rs : List SRw} {z : Int} (h0 : 0 ≤ z) (h1 : z < rs.length) : atI (rs.map srD) z = some (srD (rs.getD z.toNat none)) := by
  obtain ⟨n, rfl⟩ := Int.eq_ofNat_of_zero_le h0
  have : n < rs.length := by omega
  rw [srow_at this, Int.toNat_natCast, List.getD_eq_getElem?_getD, List.getElem?_eq_getElem this]; rfl
theorem SOk.getD {s : Int} {rs : List SRw} (h : ∀ r ∈ rs, SOk s r) (n : Nat) : SOk s (rs.getD n none) := by
  rw [List.getD_eq_getElem?_getD]
  cases e : rs[n]? with
  | none => trivial
  | some r => exact h r (List.mem_of_getElem? e)
theorem pl_srow (r : SRw) : plN 1 (srD r) = true := by
  cases r with
  | none => rfl
  | some r =>
    obtain ⟨b, i, t, u⟩ := r
    refine plT ?_
    rw [List.all_cons, List.all_cons, List.all_cons, List.all_cons, plI, plI, plI]
    cases b
    · rw [show plN 0 (wordD false) = true from plS (by decide +kernel)]; rfl
    · rw [show plN 0 (wordD true) = true from plS (by decide +kernel)]; rfl
theorem pl_srows (rs : List SRw) : (rs.map srD).all (plN 1) = true := by
  rw [List.all_map, List.all_eq_true]; intro x _; exact pl_srow x
theorem isrowS_ok (T : Tx K mg) {h : DH} {Q : QD} {Qx : QX} {s : Int} {r : SRw} (ok : SOk s r) (q : Q (.bl true) h) : W_is_stack_row T [srD r, .int s] h Q Qx := by
  cases r with
  | none =>
    unfold srD
    walk_at "df"
    walk_at "rt"
  | some r =>
    obtain ⟨b, i, t, u⟩ := r
    obtain ⟨o1, o2, o3⟩ := ok
    unfold srD
    cases b
    · have o3 : 0 ≤ t ∧ t < s := o3
      unfold wordD
      simp only [Bool.false_eq_true, if_false]
      walk_at "df"
      rw [decide_eq_true (by omega)]
      walk_at "rt"
    · have o3 : t = 0 ∨ t = 1 := o3
      unfold wordD
      simp only [if_true]
      walk_at "df"
      rw [decide_eq_true (by omega)]
      walk_at "rt"
theorem stacks_init (T : Tx K mg) {h : DH} {Q : QD} {Qx : QX} {p lp : Addr} {rs : List SRw} (hp : h p = some (.ins T.C_Stacks [])) (hl : h lp = some (.lst (rs.map srD))) (h0 : 1 ≤ rs.length) (h1 : rs.length ≤ 5000) (ok : ∀ r ∈ rs, SOk (rs.length : Nat) r)
    (q : ∀ rp h', h rp = none → h' p = some (.ins T.C_Stacks [("states", .int (rs.length : Nat)), ("_rows", .ref rp)]) → h' rp = some (.lst (rs.map srD)) → (∀ b, b ≠ p → ∀ o, h b = some o → h' b = some o) → Q .non h') : W_Stacksdd_initdd T [.ref p, .ref lp] h Q Qx := by
  have n : lp ≠ p := by intro z; subst z; rw [hp] at hl; cases hl
  walk_at "df"
  refine for_ix (fun i env hh => hh = h ∧ ∃ o, env = [some (.ref p), some (.ref lp), o]) ?_ ?_ _ _ ⟨rfl, none, rfl⟩
  · rintro env hh ⟨rfl, o, rfl⟩
    walk_at "go"
    intro rp f
    have nr : p ≠ rp := ne_fresh dup_same f
    walk_at "go"
    refine q rp _ (by rw [dup_ne (Ne.symm nr)] at f; exact f) ?_ ?_ ?_
    · rw [dup_same, List.length_map]; rfl
    · rw [dup_ne (Ne.symm nr), dup_same]
    · intro b nb o e
      rw [dup_ne nb]
      exact dup_old (by rw [dup_ne nb]; exact e) f
  · rintro i x env hh N hx ⟨rfl, o, rfl⟩ hN
    rw [List.getElem?_map] at hx
    obtain ⟨r, hr, rfl⟩ := Option.map_eq_some_iff.mp hx
    have hok := ok r (List.mem_of_getElem? hr)
    walk_at "go"
    rw [List.length_map]
    refine isrowS_ok T hok ?_
    walk_at "go"
    exact hN _ _ hl ⟨rfl, _, rfl⟩
theorem stacks_table (T : Tx K mg) {h : DH} {Q : QD} {Qx : QX} {p : Addr} {rs : List SRw} (im : IsStacks T h p rs) (q : ∀ rp, h rp = none → Q (.ref rp) (dup h rp (.lst (rs.map srD)))) : W_Stacks_table T [.ref p] h Q Qx := by
  obtain ⟨rp, i1, i2⟩ := im
  walk_at "df"
  intro p1 f1
  have := q p1 f1
  walk_at "go"
  walk_at "rt"
theorem stacks_row (T : Tx K mg) {h : DH} {Q : QD} {Qx : QX} {p : Addr} {rs : List SRw} {z : Int} (im : IsStacks T h p rs) (h0 : 0 ≤ z) (h1 : z < rs.length) (q : Q (srD (rs.getD z.toNat none)) h) : W_Stacks_row T [.ref p, .int z] h Q Qx := by
  obtain ⟨rp, i1, i2⟩ := im
  have e := srow_ge h0 h1
  walk_at "df"
  walk_at "rt"
theorem stacks_norow (T : Tx K mg) {h : DH} {Q : QD} {Qx : QX} {p : Addr} {rs : List SRw} {z : Int} (im : IsStacks T h p rs) (h0 : z < 0 ∨ rs.length ≤ z) (q : Qx (.own T.X_BadMachine) h) : W_Stacks_row T [.ref p, .int z] h Q Qx := by
  obtain ⟨rp, i1, i2⟩ := im
  walk_at "df"
  exact q
/-! runs of stack machines -/
structure SC where
  st : Int
  a : List Int
  b : List Int
def SC.d (c : SC) : D := .tup [.int c.st, .tup (c.a.map D.int), .tup (c.b.map D.int)]
def SC.step (rs : List SRw) (c : SC) : Option SC := match rs.getD c.st.toNat none with
  | none => none
  | some (true, i, t, u) => some (if i = 0 then ⟨u, push t c.a, c.b⟩ else ⟨u, c.a, push t c.b⟩)
  | some (false, i, t, u) => some (if i = 0 then ⟨if popM c.a = 1 then u else t, c.a.tail, c.b⟩ else ⟨if popM c.b = 1 then u else t, c.a, c.b.tail⟩)
def SC.run (rs : List SRw) : Nat → SC → SC × Nat
  | 0, c => (c, 0)
  | n + 1, c => match c.step rs with
    | none => (c, 0)
    | some c' => ((SC.run rs n c').1, (SC.run rs n c').2 + 1)
/-- a stack: bits, none of them a zero at the end -/
def Stk (l : List Int) : Prop := IsBits l ∧ tz l = l
structure SC.Ok (s : Int) (c : SC) : Prop where
  s0 : 0 ≤ c.st
  s1 : c.st < s
  a : Stk c.a
  b : Stk c.b
theorem Stk.push {l : List Int} {x : Int} (h : Stk l) (hx : x = 0 ∨ x = 1) : Stk (My.push x l) := by
  rw [← push_tz (by omega) h.2]
  exact ⟨(h.1.cons hx).tz, tz_tz _⟩
theorem Stk.tail {l : List Int} (h : Stk l) : Stk l.tail := ⟨fun y hy => h.1 y (List.mem_of_mem_tail hy), tail_tz h.2⟩
theorem Stk.nil : Stk [] := ⟨fun _ z => (nomatch z), rfl⟩
theorem Stk.pop {l : List Int} (h : Stk l) : popM l = 0 ∨ popM l = 1 := by
  cases l with
  | nil => exact .inl rfl
  | cons x xs => exact h.1 x List.mem_cons_self
theorem SC.step_ok {rs : List SRw} {s : Int} (ok : ∀ r ∈ rs, SOk s r) {c c' : SC} (h : c.Ok s) (e : c.step rs = some c') : c'.Ok s := by
  have o := SOk.getD ok c.st.toNat
  unfold SC.step at e
  cases er : rs.getD c.st.toNat none with
  | none => rw [er] at e; cases e
  | some r =>
    obtain ⟨b, i, t, u⟩ := r
    rw [er] at e o
    obtain ⟨o1, o2, o3⟩ := o
    cases b
    · have o3 : 0 ≤ t ∧ t < s := o3
      dsimp only at e
      split at e <;> cases e
      · refine ⟨?_, ?_, h.a.tail, h.b⟩ <;> (dsimp only; split <;> omega)
      · refine ⟨?_, ?_, h.a, h.b.tail⟩ <;> (dsimp only; split <;> omega)
    · have o3 : t = 0 ∨ t = 1 := o3
      dsimp only at e
      split at e <;> cases e
      · exact ⟨o2.1, o2.2, h.a.push o3, h.b⟩
      · exact ⟨o2.1, o2.2, h.a, h.b.push o3⟩
def SC.big (c : SC) (n : Nat) : Prop := c.a.length ≤ n ∧ c.b.length ≤ n
theorem SC.step_big {rs : List SRw} {c c' : SC} {n : Nat} (h : c.big n) (e : c.step rs = some c') : c'.big (n + 1) := by
  unfold SC.step at e
  obtain ⟨h1, h2⟩ := h
  cases er : rs.getD c.st.toNat none with
  | none => rw [er] at e; cases e
  | some r =>
    obtain ⟨b, i, t, u⟩ := r
    rw [er] at e
    have p1 := push_len (x := t) (l := c.a)
    have p2 := push_len (x := t) (l := c.b)
    cases b <;> (dsimp only at e; split at e <;> cases e) <;> (refine ⟨?_, ?_⟩ <;> (try simp only [List.length_tail]) <;> omega)
theorem SC.run_stop {rs : List SRw} {c : SC} (e : c.step rs = none) : ∀ n, SC.run rs n c = (c, 0)
  | 0 => rfl
  | n + 1 => by rw [SC.run, e]
theorem SC.run_go {rs : List SRw} {c c' : SC} {n : Nat} (e : c.step rs = some c') : SC.run rs (n + 1) c = ((SC.run rs n c').1, (SC.run rs n c').2 + 1) := by rw [SC.run, e]
theorem SC.run_ok {rs : List SRw} {s : Int} (ok : ∀ r ∈ rs, SOk s r) : ∀ (n : Nat) (c : SC), c.Ok s → (SC.run rs n c).1.Ok s
  | 0, c, h => h
  | n + 1, c, h => by
    cases e : c.step rs with
    | none => rw [SC.run_stop e]; exact h
    | some c' => rw [SC.run_go e]; exact SC.run_ok ok n c' (SC.step_ok ok h e)
theorem SC.run_big {rs : List SRw} : ∀ (n : Nat) (c : SC) (m : Nat), c.big m → (SC.run rs n c).1.big (m + n)
  | 0, c, m, h => h
  | n + 1, c, m, h => by
    cases e : c.step rs with
    | none => rw [SC.run_stop e]; exact ⟨by have := h.1; show c.a.length ≤ _; omega, by have := h.2; show c.b.length ≤ _; omega⟩
    | some c' => rw [SC.run_go e, show m + (n + 1) = (m + 1) + n by omega]; exact SC.run_big n c' _ (SC.step_big h e)
theorem SC.run_snoc {rs : List SRw} : ∀ (k : Nat) (c : SC), SC.run rs (k + 1) c = (match (SC.run rs k c).1.step rs with
    | none => SC.run rs k c
    | some c' => (c', k + 1)) ∧ ((SC.run rs k c).1.step rs ≠ none → (SC.run rs k c).2 = k) ∧ (SC.run rs k c).2 ≤ k
  | 0, c => by
    refine ⟨?_, fun _ => rfl, Nat.le_refl _⟩
    show SC.run rs 1 c = match c.step rs with | none => (c, 0) | some c' => (c', 1)
    cases e : c.step rs with
    | none => rw [SC.run_stop e]
    | some c' => rw [SC.run_go e]; rfl
  | k + 1, c => by
    cases e : c.step rs with
    | none =>
      rw [SC.run_stop e, SC.run_stop e]
      rw [e]
      exact ⟨rfl, fun z => absurd rfl z, Nat.zero_le _⟩
    | some c' =>
      obtain ⟨i1, i2, i3⟩ := SC.run_snoc (rs := rs) k c'
      rw [SC.run_go (n := k + 1) e, SC.run_go (n := k) e, i1]
      refine ⟨?_, fun z => by have := i2 z; show _ + 1 = _; omega, by show _ + 1 ≤ _; omega⟩
      cases (SC.run rs k c').1.step rs <;> rfl
theorem pl_sc (c : SC) : plN 2 c.d = true := by
  refine plT ?_
  rw [List.all_cons, List.all_cons, List.all_cons, plI, plT (pl_ints _), plT (pl_ints _)]; rfl
theorem rev_emp {x : Int} {l : List Int} : (((x :: l).map D.int).reverse).isEmpty = false := by
  rw [List.map_cons, List.reverse_cons]; cases (l.map D.int).reverse <;> rfl
theorem nil_emp : ((([] : List Int).map D.int).reverse).isEmpty = true := rfl
/-- what a push leaves -/
theorem push_rev {x : Int} {l : List Int} (h : l ≠ [] ∨ x ≠ 0) : (l.map D.int).reverse ++ [D.int x] = ((push x l).map D.int).reverse :=
  rev_push fun z => by rcases h with q | q; exact q z.1; exact q z.2
theorem push_no {x : Int} {l : List Int} (h : ¬ (l ≠ [] ∨ x ≠ 0)) : push x l = l := by
  have h1 : l = [] := Classical.byContradiction fun z => h (.inl z)
  have h2 : x = 0 := Classical.byContradiction fun z => h (.inr z)
  subst h1 h2; rfl
/-- the loop's state -/
structure SH (h hh : DH) (p1 p2 p3 : Addr) (c : SC) : Prop where
  a : hh p1 = some (.lst (c.a.map D.int).reverse)
  b : hh p2 = some (.lst (c.b.map D.int).reverse)
  s : hh p3 = some (.lst [.ref p1, .ref p2])
  sub : Sub h hh
theorem stacks_run (T : Tx K mg) {h : DH} {Q : QD} {Qx : QX} {p : Addr} {rs : List SRw} {c0 : SC} {steps : Nat} (im : IsStacks T h p rs) (ok : ∀ r ∈ rs, SOk (rs.length : Nat) r) (oc : c0.Ok (rs.length : Nat)) (bg : c0.big 10000) (hs : steps ≤ 100000)
    (q : Q (.tup [(SC.run rs steps c0).1.d, .int ((SC.run rs steps c0).2 : Nat)]) h) : W_Stacks_run T [.ref p, c0.d, .int (steps : Nat)] h Q Qx := by
  have hz : sizeLine = 16777216 := rfl
  obtain ⟨rp, i1, i2⟩ := im
  unfold SC.d at q ⊢
  walk_at "df"
  intro p1 f1
  walk_at "go"
  intro p2 f2
  walk_at "go"
  intro p3 f3
  have g2 : h p2 = none := free_of f1 f2
  have g3 : h p3 = none := free_of f1 (free_of f2 f3)
  have n12 : p1 ≠ p2 := ne_fresh dup_same f2
  have n23 : p2 ≠ p3 := ne_fresh dup_same f3
  have n13 : p1 ≠ p3 := ne_fresh (by walk_at "hp") f3
  have sh0 : SH h (dup (dup (dup h p1 (.lst (c0.a.map D.int).reverse)) p2 (.lst (c0.b.map D.int).reverse)) p3 (.lst [.ref p1, .ref p2])) p1 p2 p3 c0 :=
    ⟨by walk_at "hp", by walk_at "hp", dup_same, ((Sub.new f1).trans (Sub.new f2)).trans (Sub.new f3)⟩
  generalize dup (dup (dup h p1 (.lst (c0.a.map D.int).reverse)) p2 (.lst (c0.b.map D.int).reverse)) p3 (.lst [.ref p1, .ref p2]) = hh0 at sh0 ⊢
  walk_at "go"
  refine while_i (fun k env hh => ∃ (c : SC) (t : Nat) (o8 o9 o10 o11 o12 o13 : Option D), env = [some (.ref p), some (.tup [.int c0.st, .tup (c0.a.map D.int), .tup (c0.b.map D.int)]), some (.int (steps : Nat)), some (.int c.st), some (.tup (c0.a.map D.int)), some (.tup (c0.b.map D.int)), some (.ref p3), some (.int (t : Nat)), o8, o9, o10, o11, o12, o13] ∧ SH h hh p1 p2 p3 c ∧ c.Ok (rs.length : Nat) ∧ c.big (10000 + t) ∧ t + k = steps ∧ SC.run rs steps c0 = ((SC.run rs k c).1, t + (SC.run rs k c).2)) steps ?_ ⟨c0, 0, none, none, none, none, none, none, rfl, sh0, oc, bg, by omega, by rw [Nat.zero_add]⟩
  rintro k env hh N ⟨c, t, o8, o9, o10, o11, o12, o13, rfl, ⟨sa, sb, ss, sub⟩, hc, bg, htk, hr⟩ hN
  obtain ⟨b1, b2⟩ := bg
  have j1 := sub _ _ i1
  have j2 := sub _ _ i2
  have er := srow_ge hc.s0 hc.s1
  have ho := SOk.getD ok c.st.toNat
  walk_at "go"
  by_cases hk : k = 0
  · subst hk
    rw [if_neg (by omega)]
    walk_at "go"
    intro p4 f4
    rw [List.reverse_reverse]
    walk_at "go"
    intro p5 f5
    rw [List.reverse_reverse]
    walk_at "go"
    rw [hr] at q
    exact rt_sub (by assumption) (sub_dup (sub_dup sub (sub.fresh f4)) (sub.fresh (free_of f4 f5))) q
  rw [if_pos (by omega)]
  walk_at "go"
  obtain ⟨k, rfl⟩ : ∃ k', k = k' + 1 := ⟨k - 1, by omega⟩
  cases ee : rs.getD c.st.toNat none with
  | none =>
    have hst : c.step rs = none := by unfold SC.step; rw [ee]
    rw [show srD none = D.non from rfl]
    walk_at "go"
    intro p4 f4
    rw [List.reverse_reverse]
    walk_at "go"
    intro p5 f5
    rw [List.reverse_reverse]
    walk_at "go"
    rw [hr, SC.run_stop hst] at q
    exact rt_sub (by assumption) (sub_dup (sub_dup sub (sub.fresh f4)) (sub.fresh (free_of f4 f5))) q
  | some r =>
    obtain ⟨w, i, x, u⟩ := r
    rw [show srD (some (w, i, x, u)) = .tup [wordD w, .int i, .int x, .int u] from rfl]
    rw [ee] at ho
    obtain ⟨h1, h2, h3⟩ := ho
    have next : ∀ (c' : SC) hh' (st' : Int) (o8 o9 o10 o11 o12 o13 : Option D), c.step rs = some c' → SH h hh' p1 p2 p3 c' → st' = c'.st → N [some (.ref p), some (.tup [.int c0.st, .tup (c0.a.map D.int), .tup (c0.b.map D.int)]), some (.int (steps : Nat)), some (.int st'), some (.tup (c0.a.map D.int)), some (.tup (c0.b.map D.int)), some (.ref p3), some (.int ((t : Nat) + 1)), o8, o9, o10, o11, o12, o13] hh' := by
      intro c' hh' st' o8 o9 o10 o11 o12 o13 est sh e
      subst e
      refine hN k _ _ (by omega) ⟨c', t + 1, o8, o9, o10, o11, o12, o13, rfl, sh, SC.step_ok ok hc est, ?_, by omega, ?_⟩
      · exact SC.step_big (n := 10000 + t) ⟨b1, b2⟩ est
      · rw [hr, SC.run_go est]
        exact congrArg _ (by show t + (_ + 1) = t + 1 + _; omega)
    have ne3 : p1 ≠ p3 ∧ p2 ≠ p3 := ⟨n13, n23⟩
    cases w
    · have h3 : 0 ≤ x ∧ x < rs.length := h3
      rw [show wordD false = .str "pop" from rfl]
      rcases h1 with rfl | rfl
      · have est : c.step rs = some ⟨if popM c.a = 1 then u else x, c.a.tail, c.b⟩ := by unfold SC.step; rw [ee]; rfl
        walk_at "go"
        cases ea : c.a with
        | nil =>
          rw [ea] at sa est
          rw [nil_emp]
          walk_at "go"
          exact next _ _ _ _ _ _ _ _ _ est ⟨sa, sb, ss, sub⟩ (by rw [show popM [] = 0 from rfl, if_neg (by decide)])
        | cons y ys =>
          rw [ea] at sa est
          rw [rev_emp]
          walk_at "go"
          rw [rev_last, rev_pop]
          walk_at "go"
          split
          · rename_i z
            walk_at "go"
            exact next _ _ _ _ _ _ _ _ _ est ⟨dup_same, (dup_ne (Ne.symm n12)).trans sb, (dup_ne (Ne.symm n13)).trans ss, sub_dup sub f1⟩ (by rw [show popM (y :: ys) = y from rfl, if_pos z])
          · rename_i z
            walk_at "go"
            exact next _ _ _ _ _ _ _ _ _ est ⟨dup_same, (dup_ne (Ne.symm n12)).trans sb, (dup_ne (Ne.symm n13)).trans ss, sub_dup sub f1⟩ (by rw [show popM (y :: ys) = y from rfl, if_neg z])
      · have est : c.step rs = some ⟨if popM c.b = 1 then u else x, c.a, c.b.tail⟩ := by unfold SC.step; rw [ee]; rfl
        walk_at "go"
        cases ea : c.b with
        | nil =>
          rw [ea] at sb est
          rw [nil_emp]
          walk_at "go"
          exact next _ _ _ _ _ _ _ _ _ est ⟨sa, sb, ss, sub⟩ (by rw [show popM [] = 0 from rfl, if_neg (by decide)])
        | cons y ys =>
          rw [ea] at sb est
          rw [rev_emp]
          walk_at "go"
          rw [rev_last, rev_pop]
          walk_at "go"
          split
          · rename_i z
            walk_at "go"
            exact next _ _ _ _ _ _ _ _ _ est ⟨(dup_ne n12).trans sa, dup_same, (dup_ne (Ne.symm n23)).trans ss, sub_dup sub g2⟩ (by rw [show popM (y :: ys) = y from rfl, if_pos z])
          · rename_i z
            walk_at "go"
            exact next _ _ _ _ _ _ _ _ _ est ⟨(dup_ne n12).trans sa, dup_same, (dup_ne (Ne.symm n23)).trans ss, sub_dup sub g2⟩ (by rw [show popM (y :: ys) = y from rfl, if_neg z])
    · have h3 : x = 0 ∨ x = 1 := h3
      rw [show wordD true = .str "push" from rfl]
      rcases h1 with rfl | rfl
      · have est : c.step rs = some ⟨u, push x c.a, c.b⟩ := by unfold SC.step; rw [ee]; rfl
        walk_at "go"
        cases ea : c.a with
        | nil =>
          rw [ea] at sa est
          rw [nil_emp]
          walk_at "go"
          split
          · rename_i z
            walk_at "go"
            exact next _ _ _ _ _ _ _ _ _ est ⟨by rw [← push_rev (.inr (by omega))]; exact dup_same, (dup_ne (Ne.symm n12)).trans sb, (dup_ne (Ne.symm n13)).trans ss, sub_dup sub f1⟩ rfl
          · rename_i z
            walk_at "go"
            exact next _ _ _ _ _ _ _ _ _ est ⟨by rw [push_no (by rintro (q | q); exact q rfl; omega)]; exact sa, sb, ss, sub⟩ rfl
        | cons y ys =>
          rw [ea] at sa est b1
          rw [List.length_cons] at b1
          rw [rev_emp]
          walk_at "go"
          exact next _ _ _ _ _ _ _ _ _ est ⟨by rw [← push_rev (.inl (List.cons_ne_nil _ _))]; exact dup_same, (dup_ne (Ne.symm n12)).trans sb, (dup_ne (Ne.symm n13)).trans ss, sub_dup sub f1⟩ rfl
      · have est : c.step rs = some ⟨u, c.a, push x c.b⟩ := by unfold SC.step; rw [ee]; rfl
        walk_at "go"
        cases ea : c.b with
        | nil =>
          rw [ea] at sb est
          rw [nil_emp]
          walk_at "go"
          split
          · rename_i z
            walk_at "go"
            exact next _ _ _ _ _ _ _ _ _ est ⟨(dup_ne n12).trans sa, by rw [← push_rev (.inr (by omega))]; exact dup_same, (dup_ne (Ne.symm n23)).trans ss, sub_dup sub g2⟩ rfl
          · rename_i z
            walk_at "go"
            exact next _ _ _ _ _ _ _ _ _ est ⟨sa, by rw [push_no (by rintro (q | q); exact q rfl; omega)]; exact sb, ss, sub⟩ rfl
        | cons y ys =>
          rw [ea] at sb est b2
          rw [List.length_cons] at b2
          rw [rev_emp]
          walk_at "go"
          exact next _ _ _ _ _ _ _ _ _ est ⟨(dup_ne n12).trans sa, by rw [← push_rev (.inl (List.cons_ne_nil _ _))]; exact dup_same, (dup_ne (Ne.symm n23)).trans ss, sub_dup sub g2⟩ rfl
theorem stacks_step (T : Tx K mg) {h : DH} {Q : QD} {Qx : QX} {p : Addr} {rs : List SRw} {c : SC} (im : IsStacks T h p rs) (ok : ∀ r ∈ rs, SOk (rs.length : Nat) r) (oc : c.Ok (rs.length : Nat)) (bg : c.big 10000)
    (q0 : c.step rs = none → Q .non h) (q1 : ∀ c', c.step rs = some c' → Q c'.d h) : W_Stacks_step T [.ref p, c.d] h Q Qx := by
  have im' := im
  obtain ⟨rp, i1, i2⟩ := im'
  walk_at "df"
  refine stacks_run T im ok oc bg (steps := 1) (by decide) ?_
  cases e : c.step rs with
  | none =>
    have q := q0 e
    rw [SC.run_stop e]
    walk_at "go"
    walk_at "rt"
  | some c' =>
    have q := q1 c' e
    rw [SC.run_go e]
    walk_at "go"
    walk_at "rt"
/-- a row of a counter machine: inc or dec, counter, state, other state (of a dec) -/
abbrev CRw := Option (Bool × Int × Int × Int)
def crD : CRw → D
  | none => .non
  | some (true, i, t, _) => .tup [.str "inc", .int i, .int t]
  | some (false, i, t, u) => .tup [.str "dec", .int i, .int t, .int u]
def COk (k s : Int) : CRw → Prop
  | none => True
  | some (b, i, t, u) => (0 ≤ i ∧ i < k) ∧ (0 ≤ t ∧ t < s) ∧ (b = true ∨ 0 ≤ u ∧ u < s)
def IsCtr (T : Tx K mg) (h : DH) (p : Addr) (k : Int) (rs : List CRw) : Prop := ∃ rp, h p = some (.ins T.C_Counters [("count", .int k), ("states", .int (rs.length : Nat)), ("_rows", .ref rp)]) ∧ h rp = some (.lst (rs.map crD))
theorem IsCtr.sub {T : Tx K mg} {h h' : DH} {p : Addr} {k : Int} {rs : List CRw} (i : IsCtr T h p k rs) (s : DL.Sub h h') : IsCtr T h' p k rs := by
  obtain ⟨rp, a, b⟩ := i
  exact ⟨rp, s _ _ a, s _ _ b⟩
theorem crow_at {rs : List CRw} {i : Nat} (hi : i < rs.length) : atI (rs.map crD) (i : Nat) = some (crD rs[i]) := by rw [atN, List.getElem?_map, List.getElem?_eq_getElem hi]; rfl
theorem crow_ge {rs : List CRw} {z : Int} (h0 : 0 ≤ z) (h1 : z < rs.length) : atI (rs.map crD) z = some (crD (rs.getD z.toNat none)) := by
  obtain ⟨n, rfl⟩ := Int.eq_ofNat_of_zero_le h0
  have : n < rs.length := by omega
  rw [crow_at this, Int.toNat_natCast, List.getD_eq_getElem?_getD, List.getElem?_eq_getElem this]; rfl
theorem COk.getD {k s : Int} {rs : List CRw} (h : ∀ r ∈ rs, COk k s r) (n : Nat) : COk k s (rs.getD n none) := by
  rw [List.getD_eq_getElem?_getD]
  cases e : rs[n]? with
  | none => trivial
  | some r => exact h r (List.mem_of_getElem? e)
theorem pl_crow (r : CRw) : plN 1 (crD r) = true := by
  cases r with
  | none => rfl
  | some r =>
    obtain ⟨b, i, t, u⟩ := r
    cases b
    · refine plT ?_
      rw [List.all_cons, List.all_cons, List.all_cons, List.all_cons, plI, plI, plI, show plN 0 (.str "dec") = true from plS (by decide +kernel)]; rfl
    · refine plT ?_
      rw [List.all_cons, List.all_cons, List.all_cons, plI, plI, show plN 0 (.str "inc") = true from plS (by decide +kernel)]; rfl
theorem pl_crows (rs : List CRw) : (rs.map crD).all (plN 1) = true := by
  rw [List.all_map, List.all_eq_true]; intro x _; exact pl_crow x
theorem map_bl {n : Nat} {g : Nat → Bool} : ((List.range n).map fun k => D.bl (g k)) = ((List.range n).map g).map D.bl := by rw [List.map_map]; rfl
theorem isrowC_ok (T : Tx K mg) {h : DH} {Q : QD} {Qx : QX} {k s : Int} {r : CRw} (ok : COk k s r) (q : Q (.bl true) h) : W_is_counter_row T [crD r, .int k, .int s] h Q Qx := by
  have allT : ∀ n : Nat, ((List.range n).map fun _ => true).all id = true := fun n => by simp
  cases r with
  | none =>
    unfold crD
    walk_at "df"
    walk_at "rt"
  | some r =>
    obtain ⟨b, i, t, u⟩ := r
    obtain ⟨o1, o2, o3⟩ := ok
    cases b
    · have o3 : 0 ≤ u ∧ u < s := by rcases o3 with z | z; exact absurd z (by decide); exact z
      unfold crD
      walk_at "df"
      rw [show DL.cutD [D.str "dec", D.int i, D.int t, D.int u] (some 2) none = [D.int t, D.int u] from rfl]
      walk_at "go"
      intro p f
      refine lc_map (fun _ => D.bl true) (show 2 < 16777216 by decide) (fun _ => trivial) ?_ ?_
      · intro j x l R hx hR
        match j, hx with
        | 0, hx => cases hx; walk_at "go"; rw [decide_eq_true (by omega)]; exact hR
        | 1, hx => cases hx; walk_at "go"; rw [decide_eq_true (by omega)]; exact hR
        | j + 2, hx => cases hx
      · refine allL_i (bs := (List.range 2).map fun _ => true) (by rw [dup_same]; rfl) ?_
        walk_at "rt"
    · unfold crD
      walk_at "df"
      rw [show DL.cutD [D.str "inc", D.int i, D.int t] (some 2) none = [D.int t] from rfl]
      walk_at "go"
      intro p f
      refine lc_map (fun _ => D.bl true) (show 1 < 16777216 by decide) (fun _ => trivial) ?_ ?_
      · intro j x l R hx hR
        match j, hx with
        | 0, hx => cases hx; walk_at "go"; rw [decide_eq_true (by omega)]; exact hR
        | j + 1, hx => cases hx
      · refine allL_i (bs := (List.range 1).map fun _ => true) (by rw [dup_same]; rfl) ?_
        walk_at "rt"
theorem ctr_init (T : Tx K mg) {h : DH} {Q : QD} {Qx : QX} {p lp : Addr} {k : Int} {rs : List CRw} (hp : h p = some (.ins T.C_Counters [])) (hl : h lp = some (.lst (rs.map crD))) (k0 : 1 ≤ k) (k1 : k ≤ 4) (h0 : 1 ≤ rs.length) (h1 : rs.length ≤ 40000) (ok : ∀ r ∈ rs, COk k (rs.length : Nat) r)
    (q : ∀ rp h', h rp = none → h' p = some (.ins T.C_Counters [("count", .int k), ("states", .int (rs.length : Nat)), ("_rows", .ref rp)]) → h' rp = some (.lst (rs.map crD)) → (∀ b, b ≠ p → ∀ o, h b = some o → h' b = some o) → Q .non h') : W_Countersdd_initdd T [.ref p, .int k, .ref lp] h Q Qx := by
  have n : lp ≠ p := by intro z; subst z; rw [hp] at hl; cases hl
  walk_at "df"
  refine for_ix (fun i env hh => hh = h ∧ ∃ o, env = [some (.ref p), some (.int k), some (.ref lp), o]) ?_ ?_ _ _ ⟨rfl, none, rfl⟩
  · rintro env hh ⟨rfl, o, rfl⟩
    walk_at "go"
    intro rp f
    have nr : p ≠ rp := ne_fresh dup_same f
    walk_at "go"
    refine q rp _ (by rw [dup_ne (Ne.symm nr)] at f; exact f) ?_ ?_ ?_
    · rw [dup_same, List.length_map]; rfl
    · rw [dup_ne (Ne.symm nr), dup_same]
    · intro b nb o e
      rw [dup_ne nb]
      exact dup_old (by rw [dup_ne nb]; exact e) f
  · rintro i x env hh N hx ⟨rfl, o, rfl⟩ hN
    rw [List.getElem?_map] at hx
    obtain ⟨r, hr, rfl⟩ := Option.map_eq_some_iff.mp hx
    have hok := ok r (List.mem_of_getElem? hr)
    walk_at "go"
    rw [List.length_map]
    refine isrowC_ok T hok ?_
    walk_at "go"
    exact hN _ _ hl ⟨rfl, _, rfl⟩
theorem ctr_table (T : Tx K mg) {h : DH} {Q : QD} {Qx : QX} {p : Addr} {k : Int} {rs : List CRw} (im : IsCtr T h p k rs) (q : ∀ rp, h rp = none → Q (.ref rp) (dup h rp (.lst (rs.map crD)))) : W_Counters_table T [.ref p] h Q Qx := by
  obtain ⟨rp, i1, i2⟩ := im
  walk_at "df"
  intro p1 f1
  have := q p1 f1
  walk_at "go"
  walk_at "rt"
theorem ctr_row (T : Tx K mg) {h : DH} {Q : QD} {Qx : QX} {p : Addr} {k z : Int} {rs : List CRw} (im : IsCtr T h p k rs) (h0 : 0 ≤ z) (h1 : z < rs.length) (q : Q (crD (rs.getD z.toNat none)) h) : W_Counters_row T [.ref p, .int z] h Q Qx := by
  obtain ⟨rp, i1, i2⟩ := im
  have e := crow_ge h0 h1
  walk_at "df"
  walk_at "rt"
theorem ctr_norow (T : Tx K mg) {h : DH} {Q : QD} {Qx : QX} {p : Addr} {k z : Int} {rs : List CRw} (im : IsCtr T h p k rs) (h0 : z < 0 ∨ rs.length ≤ z) (q : Qx (.own T.X_BadMachine) h) : W_Counters_row T [.ref p, .int z] h Q Qx := by
  obtain ⟨rp, i1, i2⟩ := im
  walk_at "df"
  exact q
/-! runs of counter machines -/
structure CC where
  st : Int
  cs : List Int
def CC.d (c : CC) : D := .tup [.int c.st, .tup (c.cs.map D.int)]
def CC.step (rs : List CRw) (c : CC) : Option CC := match rs.getD c.st.toNat none with
  | none => none
  | some (true, i, t, _) => some ⟨t, c.cs.set i.toNat (c.cs.getD i.toNat 0 + 1)⟩
  | some (false, i, t, u) => some (if 0 < c.cs.getD i.toNat 0 then ⟨t, c.cs.set i.toNat (c.cs.getD i.toNat 0 - 1)⟩ else ⟨u, c.cs⟩)
def CC.run (rs : List CRw) : Nat → CC → CC × Nat
  | 0, c => (c, 0)
  | n + 1, c => match c.step rs with
    | none => (c, 0)
    | some c' => ((CC.run rs n c').1, (CC.run rs n c').2 + 1)
structure CC.Ok (k : Nat) (s : Int) (c : CC) : Prop where
  s0 : 0 ≤ c.st
  s1 : c.st < s
  len : c.cs.length = k
  nn : ∀ x ∈ c.cs, 0 ≤ x
theorem CC.step_ok {rs : List CRw} {k : Nat} {s : Int} (ok : ∀ r ∈ rs, COk (k : Nat) s r) {c c' : CC} (h : c.Ok k s) (e : c.step rs = some c') : c'.Ok k s := by
  have o := COk.getD ok c.st.toNat
  unfold CC.step at e
  have nn : ∀ (j : Nat) (z : Int), 0 ≤ z → ∀ x ∈ c.cs.set j z, 0 ≤ x := fun j z hz x hx => by
    rcases List.mem_or_eq_of_mem_set hx with q | q
    · exact h.nn x q
    · rw [q]; exact hz
  have g0 : ∀ j : Nat, 0 ≤ c.cs.getD j 0 := fun j => by
    rw [List.getD_eq_getElem?_getD]
    cases q : c.cs[j]? with
    | none => exact Int.le_refl _
    | some x => exact h.nn x (List.mem_of_getElem? q)
  cases er : rs.getD c.st.toNat none with
  | none => rw [er] at e; cases e
  | some r =>
    obtain ⟨b, i, t, u⟩ := r
    rw [er] at e o
    obtain ⟨o1, o2, o3⟩ := o
    have gi := g0 i.toNat
    cases b
    · have o3 : 0 ≤ u ∧ u < s := by rcases o3 with z | z; exact absurd z (by decide); exact z
      dsimp only at e
      split at e
      · rename_i z
        cases e
        exact ⟨o2.1, o2.2, by rw [List.length_set]; exact h.len, nn _ _ (by omega)⟩
      · cases e
        exact ⟨o3.1, o3.2, h.len, h.nn⟩
    · dsimp only at e
      cases e
      exact ⟨o2.1, o2.2, by rw [List.length_set]; exact h.len, nn _ _ (by omega)⟩
theorem CC.run_stop {rs : List CRw} {c : CC} (e : c.step rs = none) : ∀ n, CC.run rs n c = (c, 0)
  | 0 => rfl
  | n + 1 => by rw [CC.run, e]
theorem CC.run_go {rs : List CRw} {c c' : CC} {n : Nat} (e : c.step rs = some c') : CC.run rs (n + 1) c = ((CC.run rs n c').1, (CC.run rs n c').2 + 1) := by rw [CC.run, e]
theorem CC.run_ok {rs : List CRw} {k : Nat} {s : Int} (ok : ∀ r ∈ rs, COk (k : Nat) s r) : ∀ (n : Nat) (c : CC), c.Ok k s → (CC.run rs n c).1.Ok k s
  | 0, c, h => h
  | n + 1, c, h => by
    cases e : c.step rs with
    | none => rw [CC.run_stop e]; exact h
    | some c' => rw [CC.run_go e]; exact CC.run_ok ok n c' (CC.step_ok ok h e)
theorem CC.run_snoc {rs : List CRw} : ∀ (k : Nat) (c : CC), CC.run rs (k + 1) c = (match (CC.run rs k c).1.step rs with
    | none => CC.run rs k c
    | some c' => (c', k + 1)) ∧ ((CC.run rs k c).1.step rs ≠ none → (CC.run rs k c).2 = k) ∧ (CC.run rs k c).2 ≤ k
  | 0, c => by
    refine ⟨?_, fun _ => rfl, Nat.le_refl _⟩
    show CC.run rs 1 c = match c.step rs with | none => (c, 0) | some c' => (c', 1)
    cases e : c.step rs with
    | none => rw [CC.run_stop e]
    | some c' => rw [CC.run_go e]; rfl
  | k + 1, c => by
    cases e : c.step rs with
    | none =>
      rw [CC.run_stop e, CC.run_stop e]
      rw [e]
      exact ⟨rfl, fun z => absurd rfl z, Nat.zero_le _⟩
    | some c' =>
      obtain ⟨i1, i2, i3⟩ := CC.run_snoc (rs := rs) k c'
      rw [CC.run_go (n := k + 1) e, CC.run_go (n := k) e, i1]
      refine ⟨?_, fun z => by have := i2 z; show _ + 1 = _; omega, by show _ + 1 ≤ _; omega⟩
      cases (CC.run rs k c').1.step rs <;> rfl
theorem pl_cc (c : CC) : plN 2 c.d = true := by
  refine plT ?_
  rw [List.all_cons, List.all_cons, plI, plT (pl_ints _)]; rfl
theorem cs_at {cs : List Int} {i : Int} (h0 : 0 ≤ i) (h1 : i < cs.length) : atI (cs.map D.int) i = some (.int (cs.getD i.toNat 0)) := by
  rw [atI_lt h0, List.getElem?_map, List.getD_eq_getElem?_getD, List.getElem?_eq_getElem (by omega)]; rfl
theorem cs_ix {cs : List Int} {i : Int} (h0 : 0 ≤ i) (h1 : i < cs.length) : ixN (cs.map D.int).length i = some i.toNat := by
  obtain ⟨n, rfl⟩ := Int.eq_ofNat_of_zero_le h0
  rw [Int.toNat_natCast]
  exact ixN_nat (by rw [List.length_map]; omega)
theorem cs_set {cs : List Int} {n : Nat} {z : Int} : (cs.map D.int).set n (.int z) = (cs.set n z).map D.int := by rw [List.map_set]
theorem ctr_run (T : Tx K mg) {h : DH} {Q : QD} {Qx : QX} {p : Addr} {k : Nat} {rs : List CRw} {c0 : CC} {steps : Nat} (im : IsCtr T h p (k : Nat) rs) (ok : ∀ r ∈ rs, COk (k : Nat) (rs.length : Nat) r) (oc : c0.Ok k (rs.length : Nat)) (hk : k ≤ 4)
    (q : Q (.tup [(CC.run rs steps c0).1.d, .int ((CC.run rs steps c0).2 : Nat)]) h) : W_Counters_run T [.ref p, c0.d, .int (steps : Nat)] h Q Qx := by
  obtain ⟨rp, i1, i2⟩ := im
  unfold CC.d at q ⊢
  have l0 := oc.len
  walk_at "df"
  intro p1 f1
  walk_at "go"
  refine while_i (fun m env hh => ∃ (c : CC) (t : Nat) (o7 o8 : Option D), env = [some (.ref p), some (.tup [.int c0.st, .tup (c0.cs.map D.int)]), some (.int (steps : Nat)), some (.int c.st), some (.tup (c0.cs.map D.int)), some (.ref p1), some (.int (t : Nat)), o7, o8] ∧ hh p1 = some (.lst (c.cs.map D.int)) ∧ Sub h hh ∧ c.Ok k (rs.length : Nat) ∧ t + m = steps ∧ CC.run rs steps c0 = ((CC.run rs m c).1, t + (CC.run rs m c).2)) steps ?_ ⟨c0, 0, none, none, rfl, dup_same, Sub.new f1, oc, by omega, by rw [Nat.zero_add]⟩
  rintro m env hh N ⟨c, t, o7, o8, rfl, e1, sub, hc, htm, hr⟩ hN
  have j1 := sub _ _ i1
  have j2 := sub _ _ i2
  have er := crow_ge hc.s0 hc.s1
  have ho := COk.getD ok c.st.toNat
  have lc := hc.len
  walk_at "go"
  by_cases hm : m = 0
  · subst hm
    rw [if_neg (by omega)]
    walk_at "go"
    rw [hr] at q
    exact rt_sub (by assumption) sub q
  rw [if_pos (by omega)]
  walk_at "go"
  obtain ⟨m, rfl⟩ : ∃ m', m = m' + 1 := ⟨m - 1, by omega⟩
  cases ee : rs.getD c.st.toNat none with
  | none =>
    have hst : c.step rs = none := by unfold CC.step; rw [ee]
    rw [show crD none = D.non from rfl]
    walk_at "go"
    rw [hr, CC.run_stop hst] at q
    exact rt_sub (by assumption) sub q
  | some r =>
    obtain ⟨b, i, x, u⟩ := r
    rw [ee] at ho
    obtain ⟨h1, h2, h3⟩ := ho
    have a1 := cs_at (cs := c.cs) h1.1 (by omega)
    have a2 := cs_ix (cs := c.cs) h1.1 (by omega)
    have next : ∀ (c' : CC) hh' (st' : Int) (o7 o8 : Option D), c.step rs = some c' → hh' p1 = some (.lst (c'.cs.map D.int)) → Sub h hh' → st' = c'.st → N [some (.ref p), some (.tup [.int c0.st, .tup (c0.cs.map D.int)]), some (.int (steps : Nat)), some (.int st'), some (.tup (c0.cs.map D.int)), some (.ref p1), some (.int ((t : Nat) + 1)), o7, o8] hh' := by
      intro c' hh' st' o7 o8 est e2 s2 e
      subst e
      refine hN m _ _ (by omega) ⟨c', t + 1, o7, o8, rfl, e2, s2, CC.step_ok ok hc est, by omega, ?_⟩
      rw [hr, CC.run_go est]
      exact congrArg _ (by show t + (_ + 1) = t + 1 + _; omega)
    cases b
    · rw [show crD (some (false, i, x, u)) = .tup [.str "dec", .int i, .int x, .int u] from rfl]
      walk_at "go"
      split
      · rename_i z
        have est : c.step rs = some ⟨x, c.cs.set i.toNat (c.cs.getD i.toNat 0 - 1)⟩ := by unfold CC.step; rw [ee]; dsimp only; rw [if_pos z]
        walk_at "go"
        rw [cs_set]
        exact next _ _ _ _ _ est dup_same (sub_dup sub f1) rfl
      · rename_i z
        have est : c.step rs = some ⟨u, c.cs⟩ := by unfold CC.step; rw [ee]; dsimp only; rw [if_neg z]
        walk_at "go"
        exact next _ _ _ _ _ est e1 sub rfl
    · have est : c.step rs = some ⟨x, c.cs.set i.toNat (c.cs.getD i.toNat 0 + 1)⟩ := by unfold CC.step; rw [ee]
      rw [show crD (some (true, i, x, u)) = .tup [.str "inc", .int i, .int x] from rfl]
      walk_at "go"
      rw [cs_set]
      exact next _ _ _ _ _ est dup_same (sub_dup sub f1) rfl
theorem ctr_step (T : Tx K mg) {h : DH} {Q : QD} {Qx : QX} {p : Addr} {k : Nat} {rs : List CRw} {c : CC} (im : IsCtr T h p (k : Nat) rs) (ok : ∀ r ∈ rs, COk (k : Nat) (rs.length : Nat) r) (oc : c.Ok k (rs.length : Nat)) (hk : k ≤ 4)
    (q0 : c.step rs = none → Q .non h) (q1 : ∀ c', c.step rs = some c' → Q c'.d h) : W_Counters_step T [.ref p, c.d] h Q Qx := by
  have im' := im
  obtain ⟨rp, i1, i2⟩ := im'
  walk_at "df"
  refine ctr_run T (steps := 1) im ok oc hk ?_
  cases e : c.step rs with
  | none =>
    have q := q0 e
    rw [CC.run_stop e]
    walk_at "go"
    walk_at "rt"
  | some c' =>
    have q := q1 c' e
    rw [CC.run_go e]
    walk_at "go"
    walk_at "rt"
/-- the law's stacks -/
theorem lawbits_ok (T : Tx K mg) {h : DH} {Q : QD} {Qx : QX} {d m : Int} (h0 : 0 ≤ m) (h1 : m ≤ 1000)
    (q : ∀ l, Stk l → l.length ≤ m.toNat → Q (.tup (l.map D.int)) h) : W_law_bits T [.int d, .int m] h Q Qx := by
  walk_at "df"
  intro p f
  have b0 := Int.emod_nonneg d (b := m + 1) (by omega)
  have b1 := Int.emod_lt_of_pos d (b := m + 1) (by omega)
  walk_at "go"
  refine for_up (fun i env hh => ∃ (bs : List Int) (o3 : Option D), env = [some (.int d), some (.int m), some (.ref p), o3] ∧ hh = dup h p (.lst (bs.map D.int)) ∧ bs.length = i ∧ IsBits bs) ?_ ?_ ⟨[], none, rfl, rfl, rfl, fun _ z => (nomatch z)⟩
  · rintro env hh ⟨bs, o3, rfl, rfl, hl, hb⟩
    have ht := tz_le bs
    have := q (tz bs) ⟨hb.tz, tz_tz _⟩ (by omega)
    walk_at "go"
    refine trimmedR_ok T dup_same (by omega) hb.nn ?_
    walk_at "rt"
  · rintro i env hh N hi ⟨bs, o3, rfl, rfl, hl, hb⟩ hN
    have hi' : (i : Int) ≤ m := by omega
    walk_at "go"
    refine hN _ _ ⟨bs ++ [d / (m + 1) / ((i : Int) + 1) % 2], _, rfl, by rw [List.map_append]; rfl, by rw [List.length_append, hl]; rfl, ?_⟩
    intro x hx
    rcases List.mem_append.mp hx with z | z
    · exact hb _ z
    · rw [List.mem_singleton.mp z]; omega
theorem draws_w (T : Tx K mg) {h : DH} {Q : QD} {Qx : QX} {ns : List Int} {m : Int} (hl : ns.length ≤ 63) (h0 : 0 ≤ m) (hm : m ≤ 1000)
    (q : ∀ p ds h', h p = none → Sub h h' → h' p = some (.lst (ds.map D.int)) → ds.length = m.toNat → Dr ds → Q (.ref p) h') : W_law_draws T [.sl (ns.map D.int), .int m] h Q Qx := by
  obtain ⟨n, rfl⟩ := Int.eq_ofNat_of_zero_le h0
  exact draws_ok T hl (by omega) fun p ds f e d => q p ds _ f (Sub.new f) dup_same (by rw [e, Int.toNat_natCast]) d
theorem dg_b {ds : List Int} (dr : Dr ds) (z : Int) : 0 ≤ dg ds z ∧ dg ds z < 65537 := by
  unfold dg
  rw [List.getD_eq_getElem?_getD]
  cases e : ds[z.toNat]? with
  | none => exact ⟨Int.le_refl _, by decide⟩
  | some x => exact dr x (List.mem_of_getElem? e)
local macro_rules | `(tactic| walk_at "wcall") => `(tactic| (with_reducible refine isnum_int _ ?_))
local macro_rules | `(tactic| walk_at "wcall") => `(tactic| (with_reducible refine isnum_bl _ ?_))
local macro_rules | `(tactic| walk_at "wcall") => `(tactic| (with_reducible refine isnum_str _ ?_))
local macro_rules | `(tactic| walk_at "wcall") => `(tactic| (with_reducible refine isnum_tup _ ?_))
local macro_rules | `(tactic| walk_at "wcall") => `(tactic| (with_reducible refine isnum_non _ ?_))
local macro_rules | `(tactic| walk_at "wcall") => `(tactic| (with_reducible refine iswhole_int _ ?_))
local macro_rules | `(tactic| walk_at "wcall") => `(tactic| (with_reducible refine iswhole_bl _ ?_))
local macro_rules | `(tactic| walk_at "wcall") => `(tactic| (with_reducible refine iswhole_str _ ?_))
local macro_rules | `(tactic| walk_at "wcall") => `(tactic| (with_reducible refine iswhole_tup _ ?_))
local macro_rules | `(tactic| walk_at "wcall") => `(tactic| (with_reducible refine iswhole_non _ ?_))
theorem qat_ofw {L : List D} {z : Int} {h : DH} {R : QD} (h0 : 0 ≤ z) (h1 : z < (L.length : Nat)) (q : ∀ d, atI L z = some d → R d h) : QAt h R (atI L z) := by
  have e : atI L z = some L[z.toNat] := by rw [atI_lt h0, List.getElem?_eq_getElem (by omega)]
  rw [e]; exact q _ e
/-! stack machines, heaps by name -/
theorem stacks_make (T : Tx K mg) {h : DH} {Q : QD} {Qx : QX} {lp : Addr} {rs : List SRw} (hl : h lp = some (.lst (rs.map srD))) (h0 : 1 ≤ rs.length) (h1 : rs.length ≤ 5000) (ok : ∀ r ∈ rs, SOk (rs.length : Nat) r)
    (q : ∀ p h' hN, Sub h h' → h p = none → IsStacks T hN p rs → Prv hN h' → Dis h hN → Q (.ref p) h') : Make T.C_Stacks (W_Stacksdd_initdd T) [.ref lp] h Q Qx := by
  intro p f
  refine stacks_init T dup_same (dup_old hl f) h0 h1 ok fun rp h' fr e1 e2 keep => ⟨rfl, ?_⟩
  have frp : rp ≠ p := fun z => by subst z; rw [dup_same] at fr; cases fr
  have frh : h rp = none := by rw [dup_ne frp] at fr; exact fr
  refine q p h' _ (fun a o e => keep a (ne_fresh e f) o (by rw [dup_ne (ne_fresh e f)]; exact e)) f ⟨rp, two2_a, two2_c frp⟩ (two2_prv e1 e2) (two2_dis f frh)
local macro_rules | `(tactic| walk_at "wix") => `(tactic| ((refine IsStacks.sub (h := ?s1) ?g1 ?g2); (case g1 => with_reducible assumption); (case g2 => walk_at "ws")))
theorem stacks_table_w (T : Tx K mg) {h : DH} {Q : QD} {Qx : QX} {p : Addr} {rs : List SRw} (im : IsStacks T h p rs) (q : ∀ rp h', h rp = none → Sub h h' → h' rp = some (.lst (rs.map srD)) → Q (.ref rp) h') : W_Stacks_table T [.ref p] h Q Qx := 
  stacks_table T im fun rp f => q rp _ f (Sub.new f) dup_same
local macro_rules | `(tactic| walk_at "wcall") => `(tactic| ((with_reducible refine stacks_table_w _ (rs := ?s2) ?g1 ?g2); (case g1 => walk_at "wi")))
local macro_rules | `(tactic| walk_at "wcall") => `(tactic| ((with_reducible refine stacks_row _ (rs := ?s2) ?g1 ?g3 ?g4 ?g2); (case g1 => walk_at "wi"); (case g3 => omega); (case g4 => omega)))
local macro_rules | `(tactic| walk_at "plx") => `(tactic| with_reducible exact plA_le (pl_srows _) (by decide))
local macro_rules | `(tactic| walk_at "plx") => `(tactic| with_reducible exact plN_le (pl_srow _) (by decide))
local macro_rules | `(tactic| walk_at "plx") => `(tactic| with_reducible exact plN_le (pl_sc _) (by decide))
theorem gis_sc' {neg : Bool} {c : SC} {h : DH} {Q : QD} (q : Q (.bl neg) h) : gIs neg c.d .non h Q := q
local macro_rules | `(tactic| walk_at "wcall") => `(tactic| (with_reducible refine gis_sc' ?_))
/-! counter machines, heaps by name -/
theorem ctr_make (T : Tx K mg) {h : DH} {Q : QD} {Qx : QX} {lp : Addr} {k : Int} {rs : List CRw} (hl : h lp = some (.lst (rs.map crD))) (k0 : 1 ≤ k) (k1 : k ≤ 4) (h0 : 1 ≤ rs.length) (h1 : rs.length ≤ 40000) (ok : ∀ r ∈ rs, COk k (rs.length : Nat) r)
    (q : ∀ p h' hN, Sub h h' → h p = none → IsCtr T hN p k rs → Prv hN h' → Dis h hN → Q (.ref p) h') : Make T.C_Counters (W_Countersdd_initdd T) [.int k, .ref lp] h Q Qx := by
  intro p f
  refine ctr_init T dup_same (dup_old hl f) k0 k1 h0 h1 ok fun rp h' fr e1 e2 keep => ⟨rfl, ?_⟩
  have frp : rp ≠ p := fun z => by subst z; rw [dup_same] at fr; cases fr
  have frh : h rp = none := by rw [dup_ne frp] at fr; exact fr
  refine q p h' _ (fun a o e => keep a (ne_fresh e f) o (by rw [dup_ne (ne_fresh e f)]; exact e)) f ⟨rp, two2_a, two2_c frp⟩ (two2_prv e1 e2) (two2_dis f frh)
local macro_rules | `(tactic| walk_at "wix") => `(tactic| ((refine IsCtr.sub (h := ?s1) ?g1 ?g2); (case g1 => assumption); (case g2 => walk_at "ws")))
theorem ctr_table_w (T : Tx K mg) {h : DH} {Q : QD} {Qx : QX} {p : Addr} {k : Int} {rs : List CRw} (im : IsCtr T h p k rs) (q : ∀ rp h', h rp = none → Sub h h' → h' rp = some (.lst (rs.map crD)) → Q (.ref rp) h') : W_Counters_table T [.ref p] h Q Qx := 
  ctr_table T im fun rp f => q rp _ f (Sub.new f) dup_same
local macro_rules | `(tactic| walk_at "wcall") => `(tactic| ((with_reducible refine ctr_table_w _ (k := ?s1) (rs := ?s2) ?g1 ?g2); (case g1 => walk_at "wi")))
local macro_rules | `(tactic| walk_at "plx") => `(tactic| with_reducible exact plA_le (pl_crows _) (by decide))
local macro_rules | `(tactic| walk_at "plx") => `(tactic| with_reducible exact plN_le (pl_crow _) (by decide))
local macro_rules | `(tactic| walk_at "wcall") => `(tactic| ((with_reducible refine ctr_row _ (k := ?s1) (rs := ?s2) ?g1 ?g3 ?g4 ?g2); (case g1 => walk_at "wi"); (case g3 => omega); (case g4 => omega)))
theorem range_crD {rs : List CRw} : ((List.range rs.length).map fun j : Nat => crD (rs.getD j none)) = rs.map crD := by
  refine List.ext_getElem (by simp) fun k h1 h2 => ?_
  rw [List.getElem_map, List.getElem_map, List.getElem_range, List.getD_eq_getElem?_getD, List.getElem?_eq_getElem (by simpa using h2)]; rfl
local macro_rules | `(tactic| walk_at "eqx") => `(tactic| exact range_crD)
local macro_rules | `(tactic| walk_at "wcall") => `(tactic| ((with_reducible refine cnorow_ok _ (k := ?s1) (rs := ?s2) ?g1 ?g3 ?g2); (case g1 => walk_at "wi"); (case g3 => omega)))
theorem ctr_step_n (T : Tx K mg) {h : DH} {Q : QD} {Qx : QX} {p : Addr} {k : Nat} {rs : List CRw} {c : CC} (im : IsCtr T h p (k : Nat) rs) (ok : ∀ r ∈ rs, COk (k : Nat) (rs.length : Nat) r) (oc : c.Ok k (rs.length : Nat)) (hk : k ≤ 4) (e : c.step rs = none) (q : Q .non h) : W_Counters_step T [.ref p, c.d] h Q Qx :=
  ctr_step T im ok oc hk (fun _ => q) fun c' e' => by rw [e] at e'; cases e'
theorem ctr_step_s (T : Tx K mg) {h : DH} {Q : QD} {Qx : QX} {p : Addr} {k : Nat} {rs : List CRw} {c c' : CC} (im : IsCtr T h p (k : Nat) rs) (ok : ∀ r ∈ rs, COk (k : Nat) (rs.length : Nat) r) (oc : c.Ok k (rs.length : Nat)) (hk : k ≤ 4) (e : c.step rs = some c') (q : Q c'.d h) : W_Counters_step T [.ref p, c.d] h Q Qx :=
  ctr_step T im ok oc hk (fun e' => by rw [e] at e'; cases e') fun c2 e' => by rw [e] at e'; cases e'; exact q
local macro_rules | `(tactic| walk_at "wcall") => `(tactic| ((with_reducible refine ctr_step_n _ (k := ?s1) (rs := ?s2) ?g1 ?g5 ?g3 ?g6 ?g4 ?g2); (case g1 => walk_at "wi"); (case g5 => assumption); (case g3 => assumption); (case g6 => omega); (case g4 => assumption)))
local macro_rules | `(tactic| walk_at "wcall") => `(tactic| ((with_reducible refine ctr_step_s _ (k := ?s1) (rs := ?s2) (c' := ?s3) ?g1 ?g5 ?g3 ?g6 ?g4 ?g2); (case g1 => walk_at "wi"); (case g5 => assumption); (case g3 => assumption); (case g6 => omega); (case g4 => assumption)))
local macro_rules | `(tactic| walk_at "wcall") => `(tactic| ((with_reducible refine ctr_run _ (k := ?s1) (rs := ?s2) ?g1 ?g5 ?g3 ?g6 ?g2); (case g1 => walk_at "wi"); (case g5 => assumption); (case g3 => assumption); (case g6 => omega)))
theorem gis_cc {neg : Bool} {c : CC} {h : DH} {Q : QD} (q : Q (.bl neg) h) : gIs neg c.d .non h Q := q
local macro_rules | `(tactic| walk_at "wcall") => `(tactic| (with_reducible refine gis_cc ?_))
local macro_rules | `(tactic| walk_at "plx") => `(tactic| with_reducible exact plN_le (pl_cc _) (by decide))
theorem repC {n : Nat} : (List.replicate n [D.non]).flatten = (List.replicate n (none : CRw)).map crD := by
  rw [List.flatten_replicate_singleton, List.map_replicate]; rfl
theorem repC_ok {n : Nat} {k s : Int} : ∀ r ∈ List.replicate n (none : CRw), COk k s r := fun r hr => by rw [(List.mem_replicate.mp hr).2]; trivial
theorem value_ok (T : Tx K mg) {h : DH} {Q : QD} {Qx : QX} {l : List Int} (hb : IsBits l) (q : Q (.int (val l : Nat)) h) : W_value T [.tup (l.map D.int)] h Q Qx := by
  walk_at "df"
  refine for_ix (fun i env hh => hh = h ∧ ∃ o, env = [some (.tup (l.map D.int)), some (.int (val (l.drop (l.length - i)) : Nat)), o]) ?_ ?_ _ _ ⟨rfl, none, by rw [Nat.sub_zero, List.drop_length]; rfl⟩
  · rintro env hh ⟨rfl, o, rfl⟩
    rw [List.length_reverse, List.length_map, Nat.sub_self, List.drop_zero]
    walk_at "go"
    walk_at "rt"
  · rintro i x env hh N hx ⟨rfl, o, rfl⟩ hN
    have hi : i < l.length := by have := (List.getElem?_eq_some_iff.mp hx).1; simpa using this
    rw [List.getElem?_reverse (by simpa using hi), List.length_map, List.getElem?_map, List.getElem?_eq_getElem (by omega)] at hx
    cases hx
    walk_at "go"
    refine hN _ _ trivial ⟨rfl, some (.int l[l.length - 1 - i]), ?_⟩
    have e : l.drop (l.length - (i + 1)) = l[l.length - 1 - i] :: l.drop (l.length - i) := by
      rw [List.drop_eq_getElem_cons (by omega)]
      congr 2 <;> omega
    rw [e, val]
    have := hb _ (List.getElem_mem (h := (by omega : l.length - 1 - i < l.length)))
    have e2 : 2 * ((val (l.drop (l.length - i)) : Nat) : Int) + l[l.length - 1 - i] = (((l[l.length - 1 - i]).toNat + 2 * val (l.drop (l.length - i)) : Nat) : Int) := by
      rcases this with q | q <;> rw [q] <;> simp <;> omega
    rw [e2]
theorem stackof_ok (T : Tx K mg) {h : DH} {Q : QD} {Qx : QX} {n : Nat} (hn : Builtin.Int.intBits (n : Int) ≤ 1000000) (q : Q (.tup ((bitsOf n).map D.int)) h) : W_stack_of T [.int (n : Nat)] h Q Qx := by
  walk_at "df"
  intro p f
  rw [Int.toNat_natCast]
  refine lc_i (fun j hh => hh = dup h p (.lst (((List.range j).map fun k => Builtin.bitAnd ((n : Int) / 2 ^ k) 1).map D.int))) ?_ ?_ _ rfl
  · rintro hh rfl
    rw [upto_len, bitsOf_map]
    walk_at "go"
    walk_at "rt"
  · rintro j x hh N2 hx rfl hN2
    obtain ⟨hj, rfl⟩ := upto_get hx
    rw [Int.zero_add]
    walk_at "go"
    refine hN2 _ ?_
    rw [Int.toNat_natCast, List.range_succ, List.map_append, List.map_append]; rfl
/-! two stacks as three counters -/
def lowRow (p : Nat) : SRw → List CRw
  | none => List.replicate 7 none
  | some (true, i, b, t) => [some (false, i, 7 * (p : Int) + 1, 7 * (p : Int) + 3), some (true, 2, 7 * (p : Int) + 2, 0), some (true, 2, 7 * (p : Int), 0), some (false, 2, 7 * (p : Int) + 4, if b = 1 then 7 * (p : Int) + 5 else 7 * t), some (true, i, 7 * (p : Int) + 3, 0), some (true, i, 7 * t, 0), none]
  | some (false, i, t, u) => [some (false, i, 7 * (p : Int) + 1, 7 * (p : Int) + 3), some (false, i, 7 * (p : Int) + 2, 7 * (p : Int) + 5), some (true, 2, 7 * (p : Int), 0), some (false, 2, 7 * (p : Int) + 4, 7 * t), some (true, i, 7 * (p : Int) + 3, 0), some (false, 2, 7 * (p : Int) + 6, 7 * u), some (true, i, 7 * (p : Int) + 5, 0)]
def lowsN (rs : List SRw) : Nat → List CRw
  | 0 => []
  | n + 1 => lowsN rs n ++ lowRow n (rs.getD n none)
def lows (rs : List SRw) : List CRw := lowsN rs rs.length
theorem lowRow_len (p : Nat) (r : SRw) : (lowRow p r).length = 7 := by
  cases r with
  | none => rfl
  | some r => obtain ⟨b, i, t, u⟩ := r; cases b <;> rfl
theorem lowsN_len (rs : List SRw) : ∀ n, (lowsN rs n).length = 7 * n
  | 0 => rfl
  | n + 1 => by rw [lowsN, List.length_append, lowsN_len, lowRow_len]; omega
theorem lows_len (rs : List SRw) : (lows rs).length = 7 * rs.length := lowsN_len _ _
theorem lowRow_ok {s : Nat} {p : Nat} {r : SRw} (hp : p < s) (ok : SOk (s : Nat) r) : ∀ x ∈ lowRow p r, COk 3 ((7 * s : Nat) : Int) x := by
  cases r with
  | none => intro x hx; rw [(List.mem_replicate.mp hx).2]; trivial
  | some r =>
    obtain ⟨b, i, t, u⟩ := r
    obtain ⟨o1, o2, o3⟩ := ok
    cases b
    · have o3 : 0 ≤ t ∧ t < (s : Int) := o3
      intro x hx
      simp only [lowRow, List.mem_cons, List.not_mem_nil, or_false] at hx
      rcases hx with rfl | rfl | rfl | rfl | rfl | rfl | rfl <;> (refine ⟨?_, ?_, ?_⟩ <;> first | omega | (exact .inr (by omega)) | exact .inl rfl)
    · have o3 : t = 0 ∨ t = 1 := o3
      intro x hx
      simp only [lowRow, List.mem_cons, List.not_mem_nil, or_false] at hx
      rcases hx with rfl | rfl | rfl | rfl | rfl | rfl | rfl <;> first | trivial | (refine ⟨?_, ?_, ?_⟩ <;> first | omega | (exact .inr (by split <;> omega)) | (exact .inr (by omega)) | exact .inl rfl)
theorem lowsN_ok {rs : List SRw} (ok : ∀ r ∈ rs, SOk (rs.length : Nat) r) : ∀ n, n ≤ rs.length → ∀ x ∈ lowsN rs n, COk 3 ((7 * rs.length : Nat) : Int) x
  | 0, _ => fun x hx => (nomatch hx)
  | n + 1, h => fun x hx => by
    rw [lowsN] at hx
    rcases List.mem_append.mp hx with q | q
    · exact lowsN_ok ok n (by omega) x q
    · exact lowRow_ok (by omega) (SOk.getD ok n) x q
theorem lows_ok {rs : List SRw} (ok : ∀ r ∈ rs, SOk (rs.length : Nat) r) : ∀ x ∈ lows rs, COk 3 ((lows rs).length : Nat) x := by
  rw [lows_len]; exact lowsN_ok ok _ (Nat.le_refl _)
theorem rows_push (T : Tx K mg) {h : DH} {Q : QD} {Qx : QX} {i t u : Int} {p : Nat} (ht : t = 0 ∨ t = 1) (q : ∀ lp h', h lp = none → Sub h h' → h' lp = some (.lst ((lowRow p (some (true, i, t, u))).map crD)) → Q (.ref lp) h') :
    W_rows_of_push T [srD (some (true, i, t, u)), .int (7 * (p : Int))] h Q Qx := by
  unfold srD wordD
  simp only [if_true]
  rcases ht with rfl | rfl
  · walk_at "wf"
    exact rt_go (by assumption) (q _ _ (by assumption) (by walk_at "ws") (by assumption))
  · walk_at "wf"
    exact rt_go (by assumption) (q _ _ (by assumption) (by walk_at "ws") (by assumption))
theorem rows_pop (T : Tx K mg) {h : DH} {Q : QD} {Qx : QX} {i t u : Int} {p : Nat} (q : ∀ lp h', h lp = none → Sub h h' → h' lp = some (.lst ((lowRow p (some (false, i, t, u))).map crD)) → Q (.ref lp) h') :
    W_rows_of_pop T [srD (some (false, i, t, u)), .int (7 * (p : Int))] h Q Qx := by
  unfold srD wordD
  simp only [Bool.false_eq_true, if_false]
  walk_at "wf"
  exact rt_go (by assumption) (q _ _ (by assumption) (by walk_at "ws") (by assumption))
theorem cst_rows (T : Tx K mg) {h : DH} {Q : QD} {Qx : QX} {p up : Addr} {rs : List SRw} (im : IsStacks T h up rs) (hp : h p = some (.ins T.C_CounterStair [("upper", .ref up)])) (ok : ∀ r ∈ rs, SOk (rs.length : Nat) r) (hl : rs.length ≤ 5000)
    (q : ∀ lp h', h lp = none → Sub h h' → h' lp = some (.lst ((lows rs).map crD)) → Q (.ref lp) h') : W_CounterStairddall_rows T [.ref p] h Q Qx := by
  have im' := im
  obtain ⟨ip, i1, i2⟩ := im'
  walk_at "wf"
  rename_i p1 h1 f1 s1 e1 N1 c1 p2 h2 f2 s2 e2
  refine for_enB h [1, 2, 3, 4] (fun i vs hh => ∃ o2 o3 o4, vs = [some (.ref p1), o2, o3, o4] ∧ hh p1 = some (.lst ((lowsN rs i).map crD)) ∧ hh p2 = some (.lst (rs.map srD))) [some (.ref p1), none, none, none] (by walk_at "ws") rfl ?_ ⟨none, none, none, rfl, (by show h2 p1 = some (.lst []); walk_at "wh"), e2⟩ ?_ ?_
  · rintro i vs h' s' ⟨o2, o3, o4, rfl, a1, a2⟩; exact a2
  · rintro i x vs hh N hx sb ⟨o2, o3, o4, rfl, a1, a2⟩ hN
    rw [List.getElem?_map] at hx
    obtain ⟨r, hr, rfl⟩ := Option.map_eq_some_iff.mp hx
    have hi : i < rs.length := (List.getElem?_eq_some_iff.mp hr).1
    have eg : rs.getD i none = r := by rw [List.getD_eq_getElem?_getD, hr]; rfl
    have hok := ok r (List.mem_of_getElem? hr)
    have pw2 : p1 ≠ p2 := ne_fresh e1 f2
    have l1 := lowsN_len rs i
    have l2 := lowRow_len i r
    have fin : ∀ (o2 o3 o4 : Option D) (hh' : DH) (xs : List D), Sub h hh' → hh' p1 = some (.lst ((lowsN rs i).map crD ++ xs)) → xs = (lowRow i r).map crD → hh' p2 = some (.lst (rs.map srD)) → N [some (.ref p), some (.ref p1), o2, o3, o4] hh' := by
      intro o2 o3 o4 hh' xs s' b1 b2 b3
      refine hN [some (.ref p1), o2, o3, o4] _ _ ⟨_, _, _, rfl, ?_, b3⟩ rfl s'
      rw [b1, b2, lowsN, eg, List.map_append]
    cases r with
    | none =>
      rw [show srD none = D.non from rfl]
      walk_at "w"
      refine fin _ _ _ _ (List.replicate (Int.toNat 7) [D.non]).flatten ?_ dup_same ?_ ?_
      · walk_at "ws"
      · rfl
      · walk_at "wh"
    | some r =>
      obtain ⟨b, i', t, u⟩ := r
      obtain ⟨k1, k2, k3⟩ := hok
      cases b
      · rw [show srD (some (false, i', t, u)) = D.tup [.str "pop", .int i', .int t, .int u] from rfl]
        walk_at "w"
        refine rows_pop T (p := i) fun lp h' f' s' e' => ?_
        walk_at "w"
        exact fin _ _ _ _ _ (by walk_at "ws") dup_same rfl (by walk_at "wh")
      · rw [show srD (some (true, i', t, u)) = D.tup [.str "push", .int i', .int t, .int u] from rfl]
        walk_at "w"
        refine rows_push T (p := i) k3 fun lp h' f' s' e' => ?_
        walk_at "w"
        exact fin _ _ _ _ _ (by walk_at "ws") dup_same rfl (by walk_at "wh")
  · rintro vs hh sb ⟨o2, o3, o4, rfl, a1, a2⟩
    rw [List.length_map] at a1
    walk_at "w"
    exact rt_go (by assumption) (q _ _ (by assumption) (by walk_at "ws") (by assumption))
/-- the stair -/
def IsCSt (T : Tx K mg) (h : DH) (p up lo : Addr) : Prop := h p = some (.ins T.C_CounterStair [("upper", .ref up), ("lower", .ref lo)])
theorem IsCSt.sub {T : Tx K mg} {h h' : DH} {p up lo : Addr} (i : IsCSt T h p up lo) (s : DL.Sub h h') : IsCSt T h' p up lo := s _ _ i
theorem cst_make (T : Tx K mg) {h : DH} {Q : QD} {Qx : QX} {up : Addr} {rs : List SRw} (im : IsStacks T h up rs) (ok : ∀ r ∈ rs, SOk (rs.length : Nat) r) (h0 : 1 ≤ rs.length) (hl : rs.length ≤ 5000)
    (q : ∀ p lo h', Sub h h' → h p = none → IsCSt T h' p up lo → IsCtr T h' lo 3 (lows rs) → Q (.ref p) h') : Make T.C_CounterStair (W_CounterStairdd_initdd T) [.ref up] h Q Qx := by
  intro p f
  have ll := lows_len rs
  walk_at "wf"
  refine cst_rows T (rs := rs) (by walk_at "wi") dup_same ok hl fun lp h1 f1 s1 e1 => ?_
  walk_at "w"
  refine ctr_make T (rs := lows rs) e1 (by decide) (by decide) (by omega) (by omega) (lows_ok ok) fun lo h2 hN s2 f2 ic pv di => ?_
  walk_at "w"
  exact q p lo _ (by walk_at "ws") f dup_same (ic.sub (by walk_at "ws"))
theorem bits_small' {n m : Nat} (h : n < 2 ^ m) (hm : m ≤ 1000000) : Builtin.Int.intBits (n : Int) ≤ 1000000 := Nat.le_trans (PyProof.Rows.intBits_le (k := m) (by rw [Int.natAbs_natCast]; exact h)) hm
local macro_rules | `(tactic| walk_at "wcall") => `(tactic| ((with_reducible refine value_ok _ ?g1 ?g2); (case g1 => assumption)))
def SC.low (c : SC) : D := .tup [.int (7 * c.st), .tup [.int (val c.a : Nat), .int (val c.b : Nat), .int 0]]
theorem cst_down (T : Tx K mg) {h : DH} {Q : QD} {Qx : QX} {p : D} {c : SC} {s : Int} (oc : c.Ok s) (q : Q c.low h) : W_CounterStair_down T [p, c.d] h Q Qx := by
  have ha := oc.a.1
  have hb := oc.b.1
  unfold SC.d
  unfold SC.low at q
  walk_at "wf"
theorem cst_up_yes (T : Tx K mg) {h : DH} {Q : QD} {Qx : QX} {p : D} {c : SC} {s : Int} (oc : c.Ok s) (hl : c.big 1000) (q : Q c.d h) : W_CounterStair_up T [p, c.low] h Q Qx := by
  have la := hl.1
  have lb := hl.2
  unfold SC.low
  unfold SC.d at q
  rw [← bitsOf_val oc.a.1 oc.a.2, ← bitsOf_val oc.b.1 oc.b.2] at q
  have ea : 7 * c.st / 7 = c.st := by omega
  rw [← ea] at q
  walk_at "wf"
  refine stackof_ok T (bits_small' (val_lt oc.a.1) (by omega)) ?_
  walk_at "w"
  refine stackof_ok T (bits_small' (val_lt oc.b.1) (by omega)) ?_
  walk_at "w"
theorem cst_up_no (T : Tx K mg) {h : DH} {Q : QD} {Qx : QX} {p a b : D} {z x : Int} (hz : z % 7 ≠ 0 ∨ x ≠ 0) (q : Q .non h) : W_CounterStair_up T [p, .tup [.int z, .tup [a, b, .int x]]] h Q Qx := by
  walk_at "wf"
  by_cases e : z % 7 = 0
  · rw [if_neg (by omega)]
    walk_at "w"
  · rw [if_pos (by omega)]
    walk_at "w"
/-- the number of the stack that a row names -/
def SC.num (c : SC) (i : Int) : Nat := val (if i = 0 then c.a else c.b)
theorem SC.num0 {c : SC} : c.num 0 = val c.a := by unfold SC.num; rw [if_pos rfl]
theorem SC.num1 {c : SC} : c.num 1 = val c.b := by unfold SC.num; rw [if_neg (by decide)]
def SC.paceC (rs : List SRw) (c : SC) : Int := match rs.getD c.st.toNat none with
  | none => 0
  | some (true, i, t, _) => 7 * (c.num i : Nat) + 2 + t
  | some (false, i, _, _) => 5 * ((c.num i : Nat) / 2 : Int) + 2 + (c.num i : Nat) % 2
theorem cst_pace (T : Tx K mg) {h : DH} {Q : QD} {Qx : QX} {p up lo : Addr} {c : SC} {rs : List SRw} (ic : IsCSt T h p up lo) (im : IsStacks T h up rs) (ok : ∀ r ∈ rs, SOk (rs.length : Nat) r) (oc : c.Ok (rs.length : Nat)) (q : Q (.int (c.paceC rs)) h) : W_CounterStair_pace T [.ref p, c.d] h Q Qx := by
  have ha := oc.a.1
  have hb := oc.b.1
  have i0 : h p = some (.ins T.C_CounterStair [("upper", .ref up), ("lower", .ref lo)]) := ic
  have im' := im
  obtain ⟨ip, i1, i2⟩ := im'
  have z0 := oc.s0
  have z1 := oc.s1
  have ho := SOk.getD ok c.st.toNat
  unfold SC.paceC at q
  unfold SC.d
  walk_at "wf"
  cases er : rs.getD c.st.toNat none with
  | none =>
    rw [er] at q
    rw [show srD none = D.non from rfl]
    walk_at "w"
  | some r =>
    obtain ⟨b, i, t, u⟩ := r
    rw [er] at q ho
    obtain ⟨o1, o2, o3⟩ := ho
    cases b <;> dsimp only at q
    · rw [show srD (some (false, i, t, u)) = D.tup [.str "pop", .int i, .int t, .int u] from rfl]
      rcases o1 with rfl | rfl <;> simp only [SC.num0, SC.num1] at q
      · walk_at "w"
      · walk_at "w"
    · rw [show srD (some (true, i, t, u)) = D.tup [.str "push", .int i, .int t, .int u] from rfl]
      rcases o1 with rfl | rfl <;> simp only [SC.num0, SC.num1] at q
      · walk_at "w"
      · walk_at "w"
/-! what the counters do for one step of the stacks -/
def CC.Off (c : CC) : Prop := c.st % 7 ≠ 0 ∨ c.cs.getD 2 0 ≠ 0
inductive Pth (rs : List CRw) : Nat → CC → CC → Prop
  | nil (c : CC) : Pth rs 0 c c
  | cons {n : Nat} {c c1 c2 : CC} (e : c.step rs = some c1) (o : c1.Off) (p : Pth rs n c1 c2) : Pth rs (n + 1) c c2
theorem Pth.join {rs : List CRw} {a b : Nat} {c c1 c2 : CC} (p : Pth rs a c c1) (q : Pth rs b c1 c2) : Pth rs (a + b) c c2 := by
  induction p with
  | nil => rw [Nat.zero_add]; exact q
  | cons e o _ ih => rw [Nat.add_right_comm]; exact .cons e o (ih q)
theorem Pth.one {rs : List CRw} {c c1 : CC} (e : c.step rs = some c1) (o : c1.Off) : Pth rs 1 c c1 := .cons e o (.nil _)
theorem Pth.cast {rs : List CRw} {a b : Nat} {c c1 : CC} (p : Pth rs a c c1) (e : a = b) : Pth rs b c c1 := e ▸ p
theorem Pth.run {rs : List CRw} {n : Nat} {c c1 c2 : CC} (p : Pth rs n c c1) (l : c1.step rs = some c2) : (CC.run rs (n + 1) c) = (c2, n + 1) ∧ (∀ i, i < n + 1 → (CC.run rs i c).1.step rs = some (CC.run rs (i + 1) c).1) ∧ (∀ i, 0 < i → i < n + 1 → (CC.run rs i c).1.Off) := by
  induction p with
  | nil c =>
    have e : CC.run rs (0 + 1) c = (c2, 1) := CC.run_go l
    refine ⟨e, fun i hi => ?_, fun i h0 h1 => by omega⟩
    have : i = 0 := by omega
    subst this
    rw [e]; exact l
  | cons e o p ih =>
    obtain ⟨i1, i2, i3⟩ := ih l
    refine ⟨by rw [CC.run_go e, i1], fun i hi => ?_, fun i h0 h1 => ?_⟩
    · cases i with
      | zero => rw [CC.run_go e]; exact e
      | succ i => rw [CC.run_go e, CC.run_go e]; exact i2 i (by omega)
    · obtain ⟨i, rfl⟩ : ∃ j, i = j + 1 := ⟨i - 1, by omega⟩
      rw [CC.run_go e]
      cases i with
      | zero => exact o
      | succ i => exact i3 (i + 1) (by omega) (by omega)
theorem lowsN_at {rs : List SRw} {p j : Nat} (hj : j < 7) : ∀ n, p < n → (lowsN rs n).getD (7 * p + j) none = (lowRow p (rs.getD p none)).getD j none
  | 0, h => absurd h (by omega)
  | n + 1, h => by
    have l1 := lowsN_len rs n
    rw [lowsN, List.getD_eq_getElem?_getD]
    rcases Nat.lt_or_ge p n with k | k
    · rw [List.getElem?_append_left (by omega), ← List.getD_eq_getElem?_getD, lowsN_at hj n k]
    · obtain rfl : p = n := by omega
      rw [List.getElem?_append_right (by omega), l1, show 7 * p + j - 7 * p = j by omega, ← List.getD_eq_getElem?_getD]
/-- counters: the one that the row names, the other, the spare one -/
def mk3 (i : Int) (st n m z : Int) : CC := ⟨st, if i = 0 then [n, m, z] else [m, n, z]⟩
theorem mk3_off1 {i st n m z : Int} (h : st % 7 ≠ 0) : (mk3 i st n m z).Off := .inl h
theorem mk3_off2 {i st n m z : Int} (h : z ≠ 0) : (mk3 i st n m z).Off := by
  unfold mk3
  refine .inr ?_
  dsimp only
  split <;> exact h
section
variable {rs : List CRw} {i st n m z t u : Int} (hi : i = 0 ∨ i = 1)
include hi
theorem mk3_inc (e : rs.getD st.toNat none = some (true, i, t, u)) : (mk3 i st n m z).step rs = some (mk3 i t (n + 1) m z) := by
  unfold CC.step mk3
  dsimp only
  rw [e]
  rcases hi with rfl | rfl <;> rfl
theorem mk3_incS (e : rs.getD st.toNat none = some (true, 2, t, u)) : (mk3 i st n m z).step rs = some (mk3 i t n m (z + 1)) := by
  unfold CC.step mk3
  dsimp only
  rw [e]
  rcases hi with rfl | rfl <;> rfl
theorem mk3_dec (e : rs.getD st.toNat none = some (false, i, t, u)) (h : 0 < n) : (mk3 i st n m z).step rs = some (mk3 i t (n - 1) m z) := by
  unfold CC.step mk3
  dsimp only
  rw [e]
  rcases hi with rfl | rfl
  · show some (if 0 < n then _ else _) = _; rw [if_pos h]; rfl
  · show some (if 0 < n then _ else _) = _; rw [if_pos h]; rfl
theorem mk3_dec0 (e : rs.getD st.toNat none = some (false, i, t, u)) (h : n = 0) : (mk3 i st n m z).step rs = some (mk3 i u n m z) := by
  unfold CC.step mk3
  dsimp only
  rw [e]
  rcases hi with rfl | rfl
  · show some (if 0 < n then _ else _) = _; rw [if_neg (by omega)]
  · show some (if 0 < n then _ else _) = _; rw [if_neg (by omega)]
theorem mk3_decS (e : rs.getD st.toNat none = some (false, 2, t, u)) (h : 0 < z) : (mk3 i st n m z).step rs = some (mk3 i t n m (z - 1)) := by
  unfold CC.step mk3
  dsimp only
  rw [e]
  rcases hi with rfl | rfl
  · show some (if 0 < z then _ else _) = _; rw [if_pos h]; rfl
  · show some (if 0 < z then _ else _) = _; rw [if_pos h]; rfl
theorem mk3_decS0 (e : rs.getD st.toNat none = some (false, 2, t, u)) (h : z = 0) : (mk3 i st n m z).step rs = some (mk3 i u n m z) := by
  unfold CC.step mk3
  dsimp only
  rw [e]
  rcases hi with rfl | rfl
  · show some (if 0 < z then _ else _) = _; rw [if_neg (by omega)]
  · show some (if 0 < z then _ else _) = _; rw [if_neg (by omega)]
/-- the spare counter is poured back -/
theorem pour {P Q : Int} (hP : P % 7 ≠ 0) (hQ : Q % 7 ≠ 0) (e1 : rs.getD P.toNat none = some (false, 2, Q, t)) (e2 : rs.getD Q.toNat none = some (true, i, P, u)) : ∀ (k : Nat) (n : Int), Pth rs (2 * k) (mk3 i P n m k) (mk3 i P (n + k) m 0)
  | 0, n => by rw [show n + ((0 : Nat) : Int) = n by omega]; exact .nil _
  | k + 1, n => by
    have ih := pour hP hQ e1 e2 k (n + 1)
    refine .cons (c1 := mk3 i Q n m k) ?_ (mk3_off1 hQ) (.cons (c1 := mk3 i P (n + 1) m k) ?_ (mk3_off1 hP) ?_)
    · rw [mk3_decS hi e1 (by omega), show ((k + 1 : Nat) : Int) - 1 = k by omega]
    · exact mk3_inc hi e2
    · rw [show n + ((k + 1 : Nat) : Int) = n + 1 + k by omega]; exact ih
/-- a push doubles -/
theorem double {p : Nat} (r0 : rs.getD (7 * (p : Int)).toNat none = some (false, i, 7 * (p : Int) + 1, u)) (r1 : rs.getD (7 * (p : Int) + 1).toNat none = some (true, 2, 7 * (p : Int) + 2, 0)) (r2 : rs.getD (7 * (p : Int) + 2).toNat none = some (true, 2, 7 * (p : Int), 0)) :
    ∀ (k : Nat) (z : Int), 0 ≤ z → Pth rs (3 * k) (mk3 i (7 * (p : Int)) k m z) (mk3 i (7 * (p : Int)) 0 m (z + 2 * k))
  | 0, z, _ => by rw [show z + 2 * ((0 : Nat) : Int) = z by omega]; exact .nil _
  | k + 1, z, hz => by
    have ih := double r0 r1 r2 k (z + 2) (by omega)
    refine .cons (c1 := mk3 i (7 * (p : Int) + 1) k m z) ?_ (mk3_off1 (by omega)) (.cons (c1 := mk3 i (7 * (p : Int) + 2) k m (z + 1)) ?_ (mk3_off1 (by omega)) (.cons (c1 := mk3 i (7 * (p : Int)) k m (z + 2)) ?_ (mk3_off2 (by omega)) ?_))
    · rw [mk3_dec hi r0 (by omega), show ((k + 1 : Nat) : Int) - 1 = k by omega]
    · exact mk3_incS hi r1
    · rw [mk3_incS hi r2, show z + 1 + 1 = z + 2 by omega]
    · rw [show z + 2 * ((k + 1 : Nat) : Int) = z + 2 + 2 * k by omega]; exact ih
/-- a pop halves -/
theorem halve {p : Nat} {v : Int} (r0 : rs.getD (7 * (p : Int)).toNat none = some (false, i, 7 * (p : Int) + 1, u)) (r1 : rs.getD (7 * (p : Int) + 1).toNat none = some (false, i, 7 * (p : Int) + 2, v)) (r2 : rs.getD (7 * (p : Int) + 2).toNat none = some (true, 2, 7 * (p : Int), 0)) :
    ∀ (k : Nat) (n z : Int), 0 ≤ z → 0 ≤ n → Pth rs (3 * k) (mk3 i (7 * (p : Int)) (n + 2 * k) m z) (mk3 i (7 * (p : Int)) n m (z + k))
  | 0, n, z, _, _ => by rw [show z + ((0 : Nat) : Int) = z by omega, show n + 2 * ((0 : Nat) : Int) = n by omega]; exact .nil _
  | k + 1, n, z, hz, hn => by
    have ih := halve r0 r1 r2 k n (z + 1) (by omega) hn
    refine .cons (c1 := mk3 i (7 * (p : Int) + 1) (n + 2 * k + 1) m z) ?_ (mk3_off1 (by omega)) (.cons (c1 := mk3 i (7 * (p : Int) + 2) (n + 2 * k) m z) ?_ (mk3_off1 (by omega)) (.cons (c1 := mk3 i (7 * (p : Int)) (n + 2 * k) m (z + 1)) ?_ (mk3_off2 (by omega)) ?_))
    · rw [mk3_dec hi r0 (by omega), show n + 2 * ((k + 1 : Nat) : Int) - 1 = n + 2 * k + 1 by omega]
    · rw [mk3_dec hi r1 (by omega), show n + 2 * (k : Int) + 1 - 1 = n + 2 * k by omega]
    · exact mk3_incS hi r2
    · rw [show z + ((k + 1 : Nat) : Int) = z + 1 + k by omega]; exact ih
end
def SC.lowC (c : SC) : CC := ⟨7 * c.st, [(val c.a : Nat), (val c.b : Nat), 0]⟩
theorem lowC_mk {c : SC} {i : Int} (hi : i = 0 ∨ i = 1) : c.lowC = mk3 i (7 * c.st) (c.num i : Nat) (c.num (1 - i) : Nat) 0 := by
  rcases hi with rfl | rfl
  · rw [SC.num0, show (1 : Int) - 0 = 1 by decide, SC.num1]; rfl
  · rw [SC.num1, show (1 : Int) - 1 = 0 by decide, SC.num0]; rfl
theorem val_push {x : Int} {l : List Int} (hx : x = 0 ∨ x = 1) : (val (push x l) : Int) = 2 * val l + x := by
  unfold push
  split
  · rename_i e
    rw [e.1, e.2]; rfl
  · show ((x.toNat + 2 * val l : Nat) : Int) = _
    omega
theorem chainC {rs : List SRw} {c : SC} {r : Bool × Int × Int × Int} (ok : ∀ r ∈ rs, SOk (rs.length : Nat) r) (oc : c.Ok (rs.length : Nat)) (er : rs.getD c.st.toNat none = some r) :
    ∃ (n : Nat) (cm : CC) (c' : SC), c.paceC rs = ((n + 1 : Nat) : Int) ∧ Pth (lows rs) n c.lowC cm ∧ c.step rs = some c' ∧ cm.step (lows rs) = some c'.lowC := by
  have z0 := oc.s0
  have z1 := oc.s1
  have ho := SOk.getD ok c.st.toNat
  obtain ⟨p, hp⟩ := Int.eq_ofNat_of_zero_le z0
  have hpl : p < rs.length := by omega
  have at' : ∀ j : Nat, j < 7 → (lows rs).getD (7 * (p : Int) + (j : Int)).toNat none = (lowRow p (some r)).getD j none := fun j hj => by
    rw [show (7 * (p : Int) + (j : Int)).toNat = 7 * p + j by omega, lows, lowsN_at hj _ hpl]
    rw [hp, Int.toNat_natCast] at er
    rw [er]
  have a0 := at' 0 (by decide)
  have a1 := at' 1 (by decide)
  have a2 := at' 2 (by decide)
  have a3 := at' 3 (by decide)
  have a4 := at' 4 (by decide)
  have a5 := at' 5 (by decide)
  have a6 := at' 6 (by decide)
  clear at'
  rw [show 7 * (p : Int) + ((0 : Nat) : Int) = 7 * (p : Int) by omega] at a0
  rw [er] at ho
  obtain ⟨b, i, t, u⟩ := r
  cases b
  · obtain ⟨hi, hu, ht⟩ := ho
    have b0 : (lows rs).getD (7 * (p : Int)).toNat none = some (false, i, 7 * (p : Int) + 1, 7 * (p : Int) + 3) := a0
    have b1 : (lows rs).getD (7 * (p : Int) + 1).toNat none = some (false, i, 7 * (p : Int) + 2, 7 * (p : Int) + 5) := a1
    have b2 : (lows rs).getD (7 * (p : Int) + 2).toNat none = some (true, 2, 7 * (p : Int), 0) := a2
    have b3 : (lows rs).getD (7 * (p : Int) + 3).toNat none = some (false, 2, 7 * (p : Int) + 4, 7 * t) := a3
    have b4 : (lows rs).getD (7 * (p : Int) + 4).toNat none = some (true, i, 7 * (p : Int) + 3, 0) := a4
    have b5 : (lows rs).getD (7 * (p : Int) + 5).toNat none = some (false, 2, 7 * (p : Int) + 6, 7 * u) := a5
    have b6 : (lows rs).getD (7 * (p : Int) + 6).toNat none = some (true, i, 7 * (p : Int) + 5, 0) := a6
    have hpace : c.paceC rs = 5 * ((c.num i : Nat) / 2 : Int) + 2 + (c.num i : Nat) % 2 := by unfold SC.paceC; rw [er]
    -- the number is twice a number and a bit
    obtain ⟨l, m, hl, em, en, est⟩ : ∃ (l : List Int) (m : Nat), IsBits l ∧ m = c.num (1 - i) ∧ (c.num i = (popM l).toNat + 2 * val l.tail ∧ (popM l = 0 ∨ popM l = 1)) ∧ ∃ c' : SC, c.step rs = some c' ∧ c'.st = (if popM l = 1 then u else t) ∧ c'.num i = val l.tail ∧ c'.num (1 - i) = m := by
      have pb : ∀ l : List Int, IsBits l → (popM l = 0 ∨ popM l = 1) := fun l h => by
        cases l with
        | nil => exact .inl rfl
        | cons x xs => exact h x List.mem_cons_self
      have pv : ∀ l : List Int, val l = (popM l).toNat + 2 * val l.tail := fun l => by cases l <;> rfl
      rcases hi with rfl | rfl
      · refine ⟨c.a, _, oc.a.1, rfl, ⟨by rw [SC.num0]; exact pv _, pb _ oc.a.1⟩, ?_⟩
        refine ⟨⟨if popM c.a = 1 then u else t, c.a.tail, c.b⟩, by unfold SC.step; rw [er]; rfl, rfl, SC.num0, ?_⟩
        rw [show (1 : Int) - 0 = 1 by decide, SC.num1, SC.num1]
      · refine ⟨c.b, _, oc.b.1, rfl, ⟨by rw [SC.num1]; exact pv _, pb _ oc.b.1⟩, ?_⟩
        refine ⟨⟨if popM c.b = 1 then u else t, c.a, c.b.tail⟩, by unfold SC.step; rw [er]; rfl, rfl, SC.num1, ?_⟩
        rw [show (1 : Int) - 1 = 0 by decide, SC.num0, SC.num0]
    obtain ⟨en, eb⟩ := en
    obtain ⟨c', es, e1, e2, e3⟩ := est
    generalize popM l = x at en eb e1
    generalize val l.tail = v at en e2
    have low : c.lowC = mk3 i (7 * (p : Int)) ((c.num i : Nat) : Int) (m : Nat) 0 := by rw [lowC_mk hi, hp, em]
    have low' : c'.lowC = mk3 i (7 * c'.st) (v : Nat) (m : Nat) 0 := by rw [lowC_mk hi, e2, e3]
    rcases eb with rfl | rfl
    · rw [if_neg (by decide)] at e1
      refine ⟨3 * v + 1 + 2 * v, mk3 i (7 * (p : Int) + 3) (0 + v) m 0, c', by rw [hpace, en]; omega, ?_, es, ?_⟩
      · rw [low, show ((c.num i : Nat) : Int) = 0 + 2 * (v : Int) by omega]
        refine ((halve hi b0 b1 b2 v 0 0 (by decide) (by decide)).join (.one (mk3_dec0 hi b0 rfl) (mk3_off1 (by omega)))).join ?_
        rw [show (0 : Int) + (v : Int) = v by omega]
        have := pour hi (m := (m : Int)) (by omega) (by omega) b3 b4 v 0
        rwa [show (0 : Int) + (v : Int) = v by omega] at this
      · rw [low', e1, mk3_decS0 hi b3 rfl, show (0 : Int) + (v : Int) = v by omega]
    · rw [if_pos rfl] at e1
      refine ⟨3 * v + 1 + 1 + 2 * v, mk3 i (7 * (p : Int) + 5) (0 + v) m 0, c', by rw [hpace, en]; omega, ?_, es, ?_⟩
      · rw [low, show ((c.num i : Nat) : Int) = 1 + 2 * (v : Int) by omega]
        refine (((halve hi b0 b1 b2 v 1 0 (by decide) (by decide)).join (.one (mk3_dec hi b0 (by decide)) (mk3_off1 (by omega)))).join (.one (mk3_dec0 hi b1 rfl) (mk3_off1 (by omega)))).join ?_
        rw [show (0 : Int) + (v : Int) = v by omega]
        have := pour hi (m := (m : Int)) (by omega) (by omega) b5 b6 v 0
        rwa [show (0 : Int) + (v : Int) = v by omega] at this
      · rw [low', e1, mk3_decS0 hi b5 rfl, show (0 : Int) + (v : Int) = v by omega]
  · obtain ⟨hi, hu, ht⟩ := ho
    have ht : t = 0 ∨ t = 1 := ht
    have b0 : (lows rs).getD (7 * (p : Int)).toNat none = some (false, i, 7 * (p : Int) + 1, 7 * (p : Int) + 3) := a0
    have b1 : (lows rs).getD (7 * (p : Int) + 1).toNat none = some (true, 2, 7 * (p : Int) + 2, 0) := a1
    have b2 : (lows rs).getD (7 * (p : Int) + 2).toNat none = some (true, 2, 7 * (p : Int), 0) := a2
    have b3 : (lows rs).getD (7 * (p : Int) + 3).toNat none = some (false, 2, 7 * (p : Int) + 4, if t = 1 then 7 * (p : Int) + 5 else 7 * u) := a3
    have b4 : (lows rs).getD (7 * (p : Int) + 4).toNat none = some (true, i, 7 * (p : Int) + 3, 0) := a4
    have b5 : (lows rs).getD (7 * (p : Int) + 5).toNat none = some (true, i, 7 * u, 0) := a5
    have hpace : c.paceC rs = 7 * (c.num i : Nat) + 2 + t := by unfold SC.paceC; rw [er]
    obtain ⟨c', es, e1, e2, e3⟩ : ∃ c' : SC, c.step rs = some c' ∧ c'.st = u ∧ (c'.num i : Int) = 2 * (c.num i : Nat) + t ∧ c'.num (1 - i) = c.num (1 - i) := by
      rcases hi with rfl | rfl
      · refine ⟨⟨u, push t c.a, c.b⟩, by unfold SC.step; rw [er]; rfl, rfl, by rw [SC.num0, SC.num0]; exact val_push ht, ?_⟩
        rw [show (1 : Int) - 0 = 1 by decide, SC.num1, SC.num1]
      · refine ⟨⟨u, c.a, push t c.b⟩, by unfold SC.step; rw [er]; rfl, rfl, by rw [SC.num1, SC.num1]; exact val_push ht, ?_⟩
        rw [show (1 : Int) - 1 = 0 by decide, SC.num0, SC.num0]
    have low : c.lowC = mk3 i (7 * (p : Int)) ((c.num i : Nat) : Int) (c.num (1 - i) : Nat) 0 := by rw [lowC_mk hi, hp]
    have low' : c'.lowC = mk3 i (7 * u) (2 * (c.num i : Nat) + t) (c.num (1 - i) : Nat) 0 := by rw [lowC_mk hi, e1, e2, e3]
    generalize c.num i = v at *
    generalize c.num (1 - i) = m at *
    have front : Pth (lows rs) (3 * v + 1 + 2 * (2 * v)) c.lowC (mk3 i (7 * (p : Int) + 3) (2 * v) m 0) := by
      rw [low]
      refine ((double hi b0 b1 b2 v 0 (by decide)).join (.one (mk3_dec0 hi b0 rfl) (mk3_off1 (by omega)))).join ?_
      rw [show (0 : Int) + 2 * (v : Int) = ((2 * v : Nat) : Int) by omega]
      have := pour hi (m := (m : Int)) (by omega) (by omega) b3 b4 (2 * v) 0
      rwa [show (0 : Int) + ((2 * v : Nat) : Int) = 2 * (v : Int) by omega] at this
    rcases ht with rfl | rfl
    · rw [if_neg (by decide)] at b3
      refine ⟨_, _, c', by rw [hpace]; omega, front, es, ?_⟩
      rw [low', mk3_decS0 hi b3 rfl, show 2 * (v : Int) + 0 = 2 * v by omega]
    · rw [if_pos rfl] at b3
      refine ⟨_, _, c', ?_, front.join (.one (mk3_decS0 hi b3 rfl) (mk3_off1 (by omega))), es, ?_⟩
      · rw [hpace]; omega
      · rw [low', mk3_inc hi b5]
/-- a row of a table, and what makes it one of m marks and s states -/
abbrev Rw := Option (Int × Int × Int)
def rowD : Rw → D
  | none => .non
  | some (w, m, s) => .tup [.int w, .int m, .int s]
def RowOk (m s : Int) : Rw → Prop
  | none => True
  | some (w, v, t) => 0 ≤ w ∧ w < m ∧ (v = -1 ∨ v = 1) ∧ 0 ≤ t ∧ t < s
theorem mul_le20 {m s : Int} (h0 : 2 ≤ m) (h1 : m ≤ 16) (h2 : 1 ≤ s) (h3 : s ≤ 20) : 2 ≤ m * s ∧ m * s ≤ 320 := by
  refine ⟨Int.le_trans (by omega) (Int.mul_le_mul h0 h2 (by omega) (by omega)), Int.le_trans (Int.mul_le_mul h1 h3 (by omega) (by omega)) (by omega)⟩
theorem pair_at {z : Int} : ∃ d : Int, atI [D.int (-1), D.int 1] (z % 2) = some (.int d) ∧ (d = -1 ∨ d = 1) := by
  rcases (by omega : z % 2 = 0 ∨ z % 2 = 1) with e | e
  · rw [e]; exact ⟨-1, zAt0, .inl rfl⟩
  · rw [e]; exact ⟨1, zAt1, .inr rfl⟩
/-- a configuration -/
structure Cfg where
  st : Int
  l : List Int
  md : Int
  r : List Int
def Cfg.d (c : Cfg) : D := .tup [.int c.st, .tup (c.l.map D.int), .int c.md, .tup (c.r.map D.int)]
structure CfgOk (m s : Int) (c : Cfg) : Prop where
  st0 : 0 ≤ c.st
  st1 : c.st < s
  mk0 : 0 ≤ c.md
  mk1 : c.md < m
  l : SideOk m c.l
  r : SideOk m c.r
def Cfg.big (c : Cfg) (n : Nat) : Prop := c.l.length ≤ n ∧ c.r.length ≤ n
theorem isnum_yes (T : Tx K mg) {h : DH} {Q : QD} {Qx : QX} {v lo hi : Int} (a : lo ≤ v) (b : v ≤ hi) (q : Q (.bl true) h) : W_is_number T [.int v, .int lo, .int hi] h Q Qx :=
  isnum_int T (by rw [decide_eq_true ⟨a, b⟩]; exact q)
theorem isrow_ok (T : Tx K mg) {h : DH} {Q : QD} {Qx : QX} {m s : Int} {r : Int × Int × Int} (ok : RowOk m s (some r)) (q : Q (.bl true) h) : W_is_row T [rowD (some r), .int m, .int s] h Q Qx := by
  obtain ⟨w, v, t⟩ := r
  obtain ⟨o1, o2, o3, o4, o5⟩ := ok
  refine def_i rfl fun E hrt _ _ => ?_
  walk_at "en"
  refine seq_i fun N hN => ?_
  unfold rowD
  walk_at "ev"
  refine hN _ _ ?_
  refine seq_i fun N1 hN1 => ?_
  walk_at "ev"
  refine ⟨rfl, hN1 _ _ ?_⟩
  refine seq_i fun N2 hN2 => ?_
  walk_at "ev"
  refine isnum_yes T (by omega) (by omega) ?_
  walk_at "ev"
  rw [if_neg (by omega)]
  refine hN2 _ _ ?_
  walk_at "ev"
  refine isnum_yes T (by omega) (by omega) ?_
  walk_at "ev"
  exact isnum_yes T (by omega) (by omega) (hrt _ _ _ (.refl _) q)
theorem putD_hit {m : Str} {d e : D} {r : List (Str × D)} : putD m d ((m, e) :: r) = (m, d) :: r := by unfold putD; rw [if_pos rfl]
theorem putD_miss {m g : Str} {d e : D} {r : List (Str × D)} (n : g ≠ m) : putD m d ((g, e) :: r) = (g, e) :: putD m d r := by rw [putD, if_neg n]
theorem putD_nil {m : Str} {d : D} : putD m d [] = [(m, d)] := rfl
/-- a machine's fields -/
def tapeF (m s : Int) (rp : Addr) : List (Str × D) := [("marks", .int m), ("states", .int s), ("_rows", .ref rp)]
theorem init_ok (T : Tx K mg) {h : DH} {Q : QD} {Qx : QX} {m s : Int} {lp p : Addr} {rs : List Rw} (hm : 2 ≤ m) (hm' : m ≤ 16) (hs : 1 ≤ s) (hs' : s ≤ 4000) (hr : h lp = some (.lst (rs.map rowD))) (hl : rs.length = (m * s).toNat) (ok : ∀ r ∈ rs, RowOk m s r)
    (hp : h p = none) (q : ∀ rp h', h rp = none → rp ≠ p → h' = dup (dup h rp (.lst (rs.map rowD))) p (.ins T.C_Tape (tapeF m s rp)) → Q .non h') : W_Tapedd_initdd T [.ref p, .int m, .int s, .ref lp] (dup h p (.ins T.C_Tape [])) Q Qx := by
  have hms : 0 ≤ m * s := Int.mul_nonneg (by omega) (by omega)
  have nlp : lp ≠ p := by intro z; subst z; rw [hp] at hr; cases hr
  refine def_i rfl fun E hrt _ hnx => ?_
  walk_at "en"
  refine seq_i fun N hN => ?_
  walk_at "ev"
  refine isnum_yes T (by omega) (by omega) ?_
  walk_at "ev"
  refine hN _ _ ?_
  refine seq_i fun N1 hN1 => ?_
  walk_at "ev"
  refine isnum_yes T (by omega) (by omega) ?_
  walk_at "ev"
  refine hN1 _ _ ?_
  refine seq_i fun N2 hN2 => ?_
  walk_at "ev"
  simp only [dup_ne nlp, hr]
  walk_at "ev"
  refine ⟨cmulL (by omega) (by omega), ?_⟩
  rw [List.length_map, hl, if_neg (by rw [Int.toNat_of_nonneg hms]; simp)]
  refine hN2 _ _ ?_
  refine seq_i fun N3 hN3 => ?_
  walk_at "ev"
  simp only [dup_ne nlp, hr]
  walk_at "ev"
  refine for_ix (fun i env hh => ∃ o, env = [some (.ref p), some (.int m), some (.int s), some (.ref lp), o] ∧ hh = dup h p (.ins T.C_Tape [])) ?_ ?_ _ _ ⟨_, rfl, rfl⟩
  · rintro env hh ⟨o, rfl, rfl⟩
    refine hN3 _ _ ?_
    refine seq_i fun N4 hN4 => ?_
    walk_at "ev"
    refine ⟨p, _, _, rfl, dup_same, List.mem_singleton_self _, (by decide), hN4 _ _ ?_⟩
    refine seq_i fun N5 hN5 => ?_
    walk_at "ev"
    refine ⟨p, _, _, rfl, dup_same, List.mem_singleton_self _, (by show 1 < 1000; omega), hN5 _ _ ?_⟩
    walk_at "ev"
    rw [putD_nil, putD_miss (by decide), putD_nil, dup_dup, dup_dup, dup_ne nlp]
    simp only [hr]
    intro rp hrp
    have hpr : rp ≠ p := by
      intro z; subst z; rw [dup_same] at hrp; cases hrp
    rw [dup_ne hpr] at hrp
    refine ⟨p, _, _, rfl, (by rw [dup_ne (Ne.symm hpr)]; exact dup_same), List.mem_singleton_self _, (by show 2 < 1000; omega), hnx _ _ _ (.refl _) (q rp _ hrp hpr ?_)⟩
    rw [putD_miss (by decide), putD_miss (by decide), putD_nil]
    funext b
    by_cases b1 : b = p
    · subst b1; rw [dup_same, dup_same]; rfl
    · rw [dup_ne b1, dup_ne b1]
      by_cases b2 : b = rp
      · subst b2; rw [dup_same, dup_same]
      · rw [dup_ne b2, dup_ne b2, dup_ne b1]
  · rintro i x env hh N4 hx ⟨o, rfl, rfl⟩ hN4
    have gd : dup h p (.ins T.C_Tape []) lp = some (.lst (rs.map rowD)) := by rw [dup_ne nlp]; exact hr
    rw [List.getElem?_map] at hx
    obtain ⟨r, hr1, rfl⟩ := Option.map_eq_some_iff.mp hx
    have hok := ok r (List.mem_of_getElem? hr1)
    cases r with
    | none =>
      walk_at "ev"
      unfold rowD
      walk_at "ev"
      exact hN4 _ _ gd ⟨_, rfl, rfl⟩
    | some r =>
      walk_at "ev"
      have e1 : ∀ Q, gIs true (rowD (some r)) .non (dup h p (.ins T.C_Tape [])) Q = Q (.bl true) (dup h p (.ins T.C_Tape [])) := fun _ => rfl
      simp only [e1]
      walk_at "ev"
      refine isrow_ok T hok ?_
      walk_at "ev"
      exact hN4 _ _ gd ⟨_, rfl, rfl⟩
/-- a machine in the heap -/
def IsTape (T : Tx K mg) (h : DH) (p : Addr) (m s : Int) (rs : List Rw) : Prop := ∃ rp, h p = some (.ins T.C_Tape (tapeF m s rp)) ∧ h rp = some (.lst (rs.map rowD))
theorem IsTape.sub {T : Tx K mg} {h h' : DH} {p : Addr} {m s : Int} {rs : List Rw} (a : IsTape T h p m s rs) (b : DL.Sub h h') : IsTape T h' p m s rs := by
  obtain ⟨rp, e1, e2⟩ := a
  exact ⟨rp, b _ _ e1, b _ _ e2⟩
theorem tape_marks {m s : Int} {rp : Addr} : List.lookup ("marks" : Str) (tapeF m s rp) = some (.int m) := by rfl
theorem tape_states {m s : Int} {rp : Addr} : List.lookup ("states" : Str) (tapeF m s rp) = some (.int s) := by rfl
theorem tape_rows {m s : Int} {rp : Addr} : List.lookup ("_rows" : Str) (tapeF m s rp) = some (.ref rp) := by rfl
theorem tape_cls {T : Tx K mg} {h : DH} {p rp : Addr} {m s : Int} (e : h p = some (.ins T.C_Tape (tapeF m s rp))) : ∀ a C fs, D.ref p = .ref a → h a = some (.ins C fs) → C ∈ [T.C_Tape] := by
  intro a C fs ea ec
  cases ea
  rw [e] at ec
  cases ec
  exact List.mem_singleton_self _
theorem tape_ins {T : Tx K mg} {h : DH} {p : Addr} {m s : Int} {rs : List Rw} {x : Str} (a : IsTape T h p m s rs) (l : ∀ rp, List.lookup x (tapeF m s rp) = none) : insQ h (.ref p) T.C_Tape x := by
  obtain ⟨rp, e1, _⟩ := a
  exact ⟨p, _, rfl, e1, l rp⟩
def stepZ (w v t : Int) (c : Cfg) : Cfg := if v = 1 then ⟨t, push w c.l, popM c.r, c.r.tail⟩ else ⟨t, c.l.tail, popM c.l, push w c.r⟩
def rowAt (m : Int) (rs : List Rw) (c : Cfg) : Rw := (rs[(c.st * m + c.md).toNat]?).getD none
def runZ (m : Int) (rs : List Rw) : Nat → Cfg → Cfg × Nat
  | 0, c => (c, 0)
  | n + 1, c => match rowAt m rs c with
    | none => (c, 0)
    | some (w, v, t) => ((runZ m rs n (stepZ w v t c)).1, (runZ m rs n (stepZ w v t c)).2 + 1)
theorem run_stop {m : Int} {rs : List Rw} {c : Cfg} (e : rowAt m rs c = none) : ∀ n, runZ m rs n c = (c, 0)
  | 0 => rfl
  | n + 1 => by rw [runZ, e]
theorem run_go {m : Int} {rs : List Rw} {c : Cfg} {w v t : Int} {n : Nat} (e : rowAt m rs c = some (w, v, t)) : runZ m rs (n + 1) c = ((runZ m rs n (stepZ w v t c)).1, (runZ m rs n (stepZ w v t c)).2 + 1) := by
  rw [runZ, e]
theorem run_join {m : Int} {rs : List Rw} : ∀ (a b : Nat) (c : Cfg), runZ m rs (a + b) c = ((runZ m rs b (runZ m rs a c).1).1, (runZ m rs a c).2 + (runZ m rs b (runZ m rs a c).1).2)
  | 0, b, c => by rw [Nat.zero_add]; show _ = (_, 0 + _); rw [Nat.zero_add]; rfl
  | a + 1, b, c => by
    cases e : rowAt m rs c with
    | none => rw [run_stop e, run_stop e]; show (c, 0) = ((runZ m rs b c).1, 0 + (runZ m rs b c).2); rw [run_stop e]; rfl
    | some r =>
      obtain ⟨w, v, t⟩ := r
      rw [show a + 1 + b = (a + b) + 1 by omega, run_go e, run_go e, run_join a b]
      exact congrArg (Prod.mk _) (Nat.add_right_comm _ _ _)
/-- the place of a row -/
theorem place_ok {m s : Int} {c : Cfg} (hm : 2 ≤ m) (ok : CfgOk m s c) : 0 ≤ c.st * m + c.md ∧ c.st * m + c.md < m * s := by
  have h1 : 0 ≤ c.st * m := Int.mul_nonneg ok.st0 (by omega)
  have h2 : (c.st + 1) * m ≤ s * m := Int.mul_le_mul_of_nonneg_right (by have := ok.st1; omega) (by omega)
  have h3 : (c.st + 1) * m = c.st * m + m := by rw [Int.add_mul, Int.one_mul]
  have h4 := ok.mk0
  have h5 := ok.mk1
  have h6 : m * s = s * m := Int.mul_comm _ _
  omega
theorem row_get {m s : Int} {rs : List Rw} {c : Cfg} (hm : 2 ≤ m) (hl : rs.length = (m * s).toNat) (ok : CfgOk m s c) : atI (rs.map rowD) (c.st * m + c.md) = some (rowD (rowAt m rs c)) := by
  obtain ⟨h1, h2⟩ := place_ok hm ok
  obtain ⟨n, e⟩ := Int.eq_ofNat_of_zero_le h1
  unfold rowAt
  rw [e, Int.toNat_natCast, atN, List.getElem?_map]
  have hn : n < rs.length := by omega
  rw [List.getElem?_eq_getElem hn]; rfl
theorem row_ok {m s : Int} {rs : List Rw} {c : Cfg} (hr : ∀ r ∈ rs, RowOk m s r) : RowOk m s (rowAt m rs c) := by
  unfold rowAt
  cases e : rs[(c.st * m + c.md).toNat]? with
  | none => trivial
  | some r => exact hr r (List.mem_of_getElem? e)
theorem step_cfg {m s w v t : Int} {c : Cfg} (hm : 2 ≤ m) (ok : CfgOk m s c) (r : RowOk m s (some (w, v, t))) : CfgOk m s (stepZ w v t c) := by
  obtain ⟨r1, r2, r3, r4, r5⟩ := r
  unfold stepZ
  split
  · exact ⟨r4, r5, (pop_ok hm ok.r).1, (pop_ok hm ok.r).2, push_side r1 r2 ok.l, tail_side ok.r⟩
  · exact ⟨r4, r5, (pop_ok hm ok.l).1, (pop_ok hm ok.l).2, tail_side ok.l, push_side r1 r2 ok.r⟩
theorem step_big {w v t : Int} {c : Cfg} {n : Nat} (h : c.big n) : (stepZ w v t c).big (n + 1) := by
  obtain ⟨h1, h2⟩ := h
  have p1 := push_len (x := w) (l := c.l)
  have p2 := push_len (x := w) (l := c.r)
  unfold stepZ Cfg.big
  split
  · exact ⟨by show (push w c.l).length ≤ _; omega, by show c.r.tail.length ≤ _; rw [List.length_tail]; omega⟩
  · exact ⟨by show c.l.tail.length ≤ _; rw [List.length_tail]; omega, by show (push w c.r).length ≤ _; omega⟩
theorem run_cfg {m s : Int} {rs : List Rw} (hm : 2 ≤ m) (hr : ∀ r ∈ rs, RowOk m s r) : ∀ (n : Nat) (c : Cfg), CfgOk m s c → CfgOk m s (runZ m rs n c).1
  | 0, c, ok => ok
  | n + 1, c, ok => by
    cases e : rowAt m rs c with
    | none => rw [run_stop e]; exact ok
    | some r =>
      obtain ⟨w, v, t⟩ := r
      rw [run_go e]
      exact run_cfg hm hr n _ (step_cfg hm ok (e ▸ row_ok (c := c) hr))
theorem run_big {m : Int} {rs : List Rw} : ∀ (n : Nat) (c : Cfg) (b : Nat), c.big b → (runZ m rs n c).1.big (b + n)
  | 0, c, b, h => h
  | n + 1, c, b, h => by
    cases e : rowAt m rs c with
    | none => rw [run_stop e]; exact ⟨by have := h.1; show c.l.length ≤ _; omega, by have := h.2; show c.r.length ≤ _; omega⟩
    | some r =>
      obtain ⟨w, v, t⟩ := r
      rw [run_go e, show b + (n + 1) = (b + 1) + n by omega]
      exact run_big n _ _ (step_big h)
theorem run_le {m : Int} {rs : List Rw} : ∀ (n : Nat) (c : Cfg), (runZ m rs n c).2 ≤ n
  | 0, c => Nat.le_refl _
  | n + 1, c => by
    cases e : rowAt m rs c with
    | none => rw [run_stop e]; exact Nat.zero_le _
    | some r =>
      obtain ⟨w, v, t⟩ := r
      rw [run_go e]
      have := run_le (m := m) (rs := rs) n (stepZ w v t c)
      show _ + 1 ≤ _
      omega
theorem trimmed_ok (T : Tx K mg) {h : DH} {Q : QD} {Qx : QX} {ms : List Int} (hp : ∀ x ∈ ms, 0 ≤ x) (q : Q (.tup ((tz ms).map D.int)) h) : W_trimmed T [.tup (ms.map D.int)] h Q Qx := by
  refine def_i rfl fun E hrt _ _ => ?_
  walk_at "en"
  refine seq_i fun N hN => ?_
  walk_at "ev"
  rw [List.length_map]
  refine hN _ _ ?_
  refine seq_i fun N1 hN1 => ?_
  refine while_i (fun k env hh => hh = h ∧ k ≤ ms.length ∧ env = [some (.tup (ms.map D.int)), some (.int (k : Nat))] ∧ tz ms = tz (ms.take k)) ms.length ?_ ⟨rfl, Nat.le_refl _, rfl, by rw [List.take_length]⟩
  rintro k env hh N2 ⟨rfl, hk, rfl, e⟩ hN2
  have fin : tz ms = ms.take k → N1 [some (.tup (ms.map D.int)), some (.int (k : Nat))] hh := by
    intro e2
    refine hN1 _ _ ?_
    walk_at "ev"
    rw [cut_to, ← List.map_take, ← e2]
    exact hrt _ _ _ (.refl _) q
  walk_at "ev"
  cases k with
  | zero =>
    rw [if_neg (by omega)]
    walk_at "ev"
    exact fin (by rw [e]; rfl)
  | succ k =>
    rw [if_pos (by omega)]
    have hlt : k < ms.length := by omega
    have e1 : atI (ms.map D.int) (((k + 1 : Nat) : Int) - 1) = some (.int ms[k]) := by
      rw [show (((k + 1 : Nat) : Int) - 1) = (k : Int) by omega, atN, List.getElem?_map, List.getElem?_eq_getElem hlt]; rfl
    have et : ms.take (k + 1) = ms.take k ++ [ms[k]] := by rw [List.take_succ, List.getElem?_eq_getElem hlt]; rfl
    simp only [e1]
    walk_at "ev"
    split
    · rename_i z
      walk_at "ev"
      refine hN2 k _ _ (by omega) ⟨rfl, by omega, ?_, ?_⟩
      · rw [show (((k + 1 : Nat) : Int) - 1) = (k : Int) by omega]
      · rw [e, et, z, tz_append_zero]
    · rename_i z
      walk_at "ev"
      refine fin ?_
      have := hp _ (List.getElem_mem hlt)
      rw [e, et, tz_append_pos (by omega)]
theorem stopped_ok (T : Tx K mg) {h : DH} {Q : QD} {Qx : QX} {p : Addr} {m s : Int} {rs : List Rw} {c : Cfg} (it : IsTape T h p m s rs) (hm : 2 ≤ m) (hm' : m ≤ 16) (hl : rs.length = (m * s).toNat) (oc : CfgOk m s c)
    (q : Q (.bl (decide (rowAt m rs c = none))) h) : W_Tape_stopped T [.ref p, c.d] h Q Qx := by
  obtain ⟨rp, i1, i2⟩ := it
  have er := row_get hm hl oc
  unfold Cfg.d
  refine def_i rfl fun E hrt _ _ => ?_
  walk_at "en"
  refine seq_i fun N hN => ?_
  walk_at "ev"
  refine ⟨rfl, hN _ _ ?_⟩
  walk_at "ev"
  simp only [i1, tape_states, tape_marks, tape_rows]
  walk_at "ev"
  simp only [i2, er]
  walk_at "ev"
  refine ⟨⟨⟨cmulR (by omega) (by omega), ?_⟩, tape_cls i1⟩, tape_cls i1⟩
  cases e : rowAt m rs c with
  | none =>
    rw [e] at q
    exact hrt _ _ _ (.refl _) q
  | some r =>
    obtain ⟨w, v, t⟩ := r
    rw [e] at q
    exact hrt _ _ _ (.refl _) q
theorem flat_len {α : Type} {f : Nat → List α} {k : Nat} (hk : ∀ q, (f q).length = k) : ∀ s, ((List.range s).flatMap f).length = k * s
  | 0 => by simp
  | s + 1 => by rw [List.range_succ, List.flatMap_append, List.length_append, flat_len hk s, List.flatMap_singleton, hk, Nat.mul_succ]
theorem flat_get {α : Type} {f : Nat → List α} {k : Nat} (hk : ∀ q, (f q).length = k) : ∀ (s q j : Nat), q < s → j < k → ((List.range s).flatMap f)[k * q + j]? = (f q)[j]?
  | 0, q, j, h, _ => by omega
  | s + 1, q, j, h, hj => by
    rw [List.range_succ, List.flatMap_append, List.flatMap_singleton]
    rcases Nat.lt_or_ge q s with hlt | hge
    · have : k * (q + 1) ≤ k * s := Nat.mul_le_mul_left k hlt
      rw [List.getElem?_append_left (by rw [flat_len hk]; rw [Nat.mul_succ] at this; omega)]
      exact flat_get hk s q j hlt hj
    · have e : q = s := by omega
      subst e
      rw [List.getElem?_append_right (by rw [flat_len hk]; omega), flat_len hk, Nat.add_sub_cancel_left]
/-- the rows of the four states of a mark -/
def after (r : Rw) (e : Int) : List SRw := match r with
  | none => [none, none, none, none]
  | some (w, v, t) => if v = 1 then [some (true, 0, w, 9 * t), none, none, none] else [some (true, 1, w, e + 1), some (false, 0, e + 2, e + 3), some (true, 1, 0, 9 * t), some (true, 1, 1, 9 * t)]
theorem after_len (r : Rw) (e : Int) : (after r e).length = 4 := by
  cases r with
  | none => rfl
  | some r => obtain ⟨w, v, t⟩ := r; show (if v = 1 then _ else _ : List SRw).length = 4; split <;> rfl
def blk (rs : List Rw) (q : Nat) : List SRw := some (false, 1, 9 * (q : Int) + 1, 9 * (q : Int) + 5) :: (after (rs.getD (2 * q) none) (9 * (q : Int) + 1) ++ after (rs.getD (2 * q + 1) none) (9 * (q : Int) + 5))
theorem blk_len (rs : List Rw) (q : Nat) : (blk rs q).length = 9 := by
  unfold blk; rw [List.length_cons, List.length_append, after_len, after_len]
def srows (rs : List Rw) (s : Nat) : List SRw := (List.range s).flatMap (blk rs)
theorem srows_len (rs : List Rw) (s : Nat) : (srows rs s).length = 9 * s := flat_len (blk_len rs) s
theorem srows_pop {rs : List Rw} {s q : Nat} (h : q < s) : (srows rs s).getD (9 * q) none = some (false, 1, 9 * (q : Int) + 1, 9 * (q : Int) + 5) := by
  rw [List.getD_eq_getElem?_getD, show 9 * q = 9 * q + 0 from rfl, srows, flat_get (blk_len rs) s q 0 h (by decide)]; rfl
theorem srows_aft {rs : List Rw} {s q a j : Nat} (h : q < s) (ha : a < 2) (hj : j < 4) : (srows rs s).getD (9 * q + 1 + 4 * a + j) none = (after (rs.getD (2 * q + a) none) (9 * (q : Int) + 1 + 4 * (a : Int))).getD j none := by
  rw [List.getD_eq_getElem?_getD, List.getD_eq_getElem?_getD, show 9 * q + 1 + 4 * a + j = 9 * q + (1 + 4 * a + j) by omega, srows, flat_get (blk_len rs) s q _ h (by omega)]
  unfold blk
  rcases (by omega : a = 0 ∨ a = 1) with rfl | rfl
  · rw [show 1 + 4 * 0 + j = j + 1 by omega, List.getElem?_cons_succ, List.getElem?_append_left (by rw [after_len]; exact hj)]
    rw [show 9 * (q : Int) + 1 + 4 * ((0 : Nat) : Int) = 9 * (q : Int) + 1 by omega]; rfl
  · rw [show 1 + 4 * 1 + j = (j + 4) + 1 by omega, List.getElem?_cons_succ, List.getElem?_append_right (by rw [after_len]; omega), after_len, Nat.add_sub_cancel]
    rw [show 9 * (q : Int) + 1 + 4 * ((1 : Nat) : Int) = 9 * (q : Int) + 5 by omega]
theorem after_ok {s : Nat} {r : Rw} {e : Int} (h0 : 0 ≤ e) (h1 : e + 3 < 9 * (s : Int)) (hr : RowOk 2 (s : Nat) r) : ∀ x ∈ after r e, SOk (9 * (s : Int)) x := by
  intro x hx
  cases r with
  | none =>
    have : x = none := by simpa [after] using hx
    subst this; trivial
  | some r =>
    obtain ⟨w, v, t⟩ := r
    obtain ⟨r1, r2, r3, r4, r5⟩ := hr
    have hw : w = 0 ∨ w = 1 := by omega
    simp only [after] at hx
    split at hx
    · simp only [List.mem_cons, List.not_mem_nil, or_false] at hx
      rcases hx with rfl | rfl | rfl | rfl
      · exact ⟨.inl rfl, ⟨by omega, by omega⟩, hw⟩
      all_goals trivial
    · simp only [List.mem_cons, List.not_mem_nil, or_false] at hx
      rcases hx with rfl | rfl | rfl | rfl
      · exact ⟨.inr rfl, ⟨by omega, by omega⟩, hw⟩
      · exact ⟨.inl rfl, ⟨by omega, by omega⟩, by show 0 ≤ e + 2 ∧ e + 2 < _; omega⟩
      · exact ⟨.inr rfl, ⟨by omega, by omega⟩, .inl rfl⟩
      · exact ⟨.inr rfl, ⟨by omega, by omega⟩, .inr rfl⟩
theorem rowok_getD {m s : Int} {rs : List Rw} (h : ∀ r ∈ rs, RowOk m s r) (n : Nat) : RowOk m s (rs.getD n none) := by
  rw [List.getD_eq_getElem?_getD]
  cases e : rs[n]? with
  | none => trivial
  | some r => exact h r (List.mem_of_getElem? e)
theorem srows_ok {rs : List Rw} {s : Nat} (ok : ∀ r ∈ rs, RowOk 2 (s : Nat) r) : ∀ x ∈ srows rs s, SOk ((srows rs s).length : Nat) x := by
  intro x hx
  rw [srows_len, show ((9 * s : Nat) : Int) = 9 * (s : Int) by omega]
  obtain ⟨q, hq, hx⟩ := List.mem_flatMap.mp hx
  have hq := List.mem_range.mp hq
  unfold blk at hx
  rcases List.mem_cons.mp hx with rfl | hx
  · exact ⟨.inr rfl, ⟨by omega, by omega⟩, by show 0 ≤ 9 * (q : Int) + 1 ∧ _; omega⟩
  rcases List.mem_append.mp hx with hx | hx
  · exact after_ok (by omega) (by omega) (rowok_getD ok _) x hx
  · exact after_ok (by omega) (by omega) (rowok_getD ok _) x hx
theorem side_stk {l : List Int} (h : SideOk 2 l) : Stk l := ⟨fun x hx => by have := h.1 x hx; omega, h.2⟩
theorem pop_push {x : Int} {l : List Int} : popM (push x l) = x := by
  unfold push; split
  · rename_i z; rw [z.2]; rfl
  · rfl
theorem tail_push {x : Int} {l : List Int} : (push x l).tail = l := by
  unfold push; split
  · rename_i z; rw [z.1]; rfl
  · rfl
theorem push_pop {l : List Int} (h : tz l = l) : push (popM l) l.tail = l := by
  cases l with
  | nil => rfl
  | cons x xs =>
    show push x xs = x :: xs
    unfold push
    rw [if_neg]
    rintro ⟨rfl, rfl⟩
    rw [tz_nil rfl, if_neg (by decide)] at h; cases h
def Cfg.down (c : Cfg) : SC := ⟨9 * c.st, c.l, push c.md c.r⟩
theorem down_ok {s : Nat} {rs : List Rw} {c : Cfg} (oc : CfgOk 2 (s : Nat) c) : (c.down).Ok ((srows rs s).length : Nat) := by
  have h0 := oc.st0; have h1 := oc.st1; have h2 := oc.mk0; have h3 := oc.mk1
  rw [srows_len]
  exact ⟨by show 0 ≤ 9 * c.st; omega, by show 9 * c.st < _; omega, side_stk oc.l, (side_stk oc.r).push (by omega)⟩
/-- the first lower step: the mark is popped -/
theorem down_pop {s : Nat} {rs : List Rw} {c : Cfg} (oc : CfgOk 2 (s : Nat) c) : c.down.step (srows rs s) = some ⟨9 * c.st + 1 + 4 * c.md, c.l, c.r⟩ := by
  have h0 := oc.st0; have h1 := oc.st1; have h2 := oc.mk0; have h3 := oc.mk1
  unfold SC.step Cfg.down
  dsimp only
  obtain ⟨q, hq⟩ := Int.eq_ofNat_of_zero_le h0
  rw [hq, show (9 * (q : Int)).toNat = 9 * q by omega, srows_pop (by omega)]
  dsimp only
  rw [if_neg (by decide), pop_push, tail_push]
  rcases (by omega : c.md = 0 ∨ c.md = 1) with e | e
  · rw [e, if_neg (by decide)]; rfl
  · rw [e, if_pos rfl]; congr 2
/-- a row of the four behind the mark -/
theorem aft_row {s : Nat} {rs : List Rw} {c : Cfg} (oc : CfgOk 2 (s : Nat) c) (hl : rs.length = 2 * s) {j : Nat} (hj : j < 4) : (srows rs s).getD (9 * c.st + 1 + 4 * c.md + (j : Int)).toNat none = (after (rowAt 2 rs c) (9 * c.st + 1 + 4 * c.md)).getD j none := by
  have h0 := oc.st0; have h1 := oc.st1; have h2 := oc.mk0; have h3 := oc.mk1
  obtain ⟨q, hq⟩ := Int.eq_ofNat_of_zero_le h0
  obtain ⟨a, ha⟩ := Int.eq_ofNat_of_zero_le h2
  unfold rowAt
  rw [hq, ha, show (9 * (q : Int) + 1 + 4 * (a : Int) + (j : Int)).toNat = 9 * q + 1 + 4 * a + j by omega, srows_aft (by omega) (by omega) hj, show ((q : Int) * 2 + (a : Int)).toNat = 2 * q + a by omega, ← List.getD_eq_getElem?_getD]
theorem up_mod {c : Cfg} (h2 : 0 ≤ c.md) (h3 : c.md < 2) {j : Int} (h4 : 0 ≤ j) (h5 : j < 4) : (9 * c.st + 1 + 4 * c.md + j) % 9 ≠ 0 := by
  rcases (by omega : c.md = 0 ∨ c.md = 1) with e | e <;> rw [e] <;> omega
theorem low_none {s : Nat} {rs : List Rw} {c : Cfg} (oc : CfgOk 2 (s : Nat) c) (hl : rs.length = 2 * s) (e : rowAt 2 rs c = none) : (SC.mk (9 * c.st + 1 + 4 * c.md) c.l c.r).step (srows rs s) = none := by
  have := aft_row oc hl (j := 0) (by decide)
  unfold SC.step
  dsimp only
  rw [show 9 * c.st + 1 + 4 * c.md = 9 * c.st + 1 + 4 * c.md + ((0 : Nat) : Int) by omega, this, e]; rfl
theorem low_right {s : Nat} {rs : List Rw} {c : Cfg} (oc : CfgOk 2 (s : Nat) c) (hl : rs.length = 2 * s) {w t : Int} (e : rowAt 2 rs c = some (w, 1, t)) : (SC.mk (9 * c.st + 1 + 4 * c.md) c.l c.r).step (srows rs s) = some (stepZ w 1 t c).down := by
  have := aft_row oc hl (j := 0) (by decide)
  unfold SC.step
  dsimp only
  rw [show 9 * c.st + 1 + 4 * c.md = 9 * c.st + 1 + 4 * c.md + ((0 : Nat) : Int) by omega, this, e]
  show some (if (0 : Int) = 0 then _ else _) = _
  rw [if_pos rfl]
  unfold stepZ Cfg.down
  rw [if_pos rfl]
  dsimp only
  rw [push_pop oc.r.2]
theorem low_left {s : Nat} {rs : List Rw} {c : Cfg} (oc : CfgOk 2 (s : Nat) c) (hl : rs.length = 2 * s) {w v t : Int} (hv : v ≠ 1) (e : rowAt 2 rs c = some (w, v, t)) : (SC.mk (9 * c.st + 1 + 4 * c.md) c.l c.r).step (srows rs s) = some ⟨9 * c.st + 1 + 4 * c.md + 1, c.l, push w c.r⟩ ∧
    (SC.mk (9 * c.st + 1 + 4 * c.md + 1) c.l (push w c.r)).step (srows rs s) = some ⟨9 * c.st + 1 + 4 * c.md + 2 + popM c.l, c.l.tail, push w c.r⟩ ∧
    (SC.mk (9 * c.st + 1 + 4 * c.md + 2 + popM c.l) c.l.tail (push w c.r)).step (srows rs s) = some (stepZ w v t c).down := by
  have a0 := aft_row oc hl (j := 0) (by decide)
  have a1 := aft_row oc hl (j := 1) (by decide)
  have a2 := aft_row oc hl (j := 2) (by decide)
  have a3 := aft_row oc hl (j := 3) (by decide)
  have ea : after (rowAt 2 rs c) (9 * c.st + 1 + 4 * c.md) = [some (true, 1, w, 9 * c.st + 1 + 4 * c.md + 1), some (false, 0, 9 * c.st + 1 + 4 * c.md + 2, 9 * c.st + 1 + 4 * c.md + 3), some (true, 1, 0, 9 * t), some (true, 1, 1, 9 * t)] := by
    rw [e]; show (if v = 1 then _ else _) = _; rw [if_neg hv]
  rw [ea] at a0 a1 a2 a3
  have hp := (side_stk oc.l).pop
  refine ⟨?_, ?_, ?_⟩
  · unfold SC.step
    dsimp only
    rw [show (9 * c.st + 1 + 4 * c.md).toNat = (9 * c.st + 1 + 4 * c.md + ((0 : Nat) : Int)).toNat by omega, a0]; rfl
  · unfold SC.step
    dsimp only
    rw [show (9 * c.st + 1 + 4 * c.md + 1).toNat = (9 * c.st + 1 + 4 * c.md + ((1 : Nat) : Int)).toNat by omega, a1]
    show some (if (0 : Int) = 0 then _ else _) = _
    rw [if_pos rfl]
    rcases hp with q | q
    · rw [q, if_neg (by decide)]; congr 2; omega
    · rw [q, if_pos rfl]; congr 2; omega
  · have fin : (⟨9 * t, c.l.tail, push (popM c.l) (push w c.r)⟩ : SC) = (stepZ w v t c).down := by
      unfold stepZ Cfg.down; rw [if_neg hv]
    rw [← fin]
    unfold SC.step
    dsimp only
    rcases hp with q | q
    · rw [q, show (9 * c.st + 1 + 4 * c.md + 2 + 0).toNat = (9 * c.st + 1 + 4 * c.md + ((2 : Nat) : Int)).toNat by omega, a2]; rfl
    · rw [q, show (9 * c.st + 1 + 4 * c.md + 2 + 1).toNat = (9 * c.st + 1 + 4 * c.md + ((3 : Nat) : Int)).toNat by omega, a3]; rfl
theorem cut1 {l : List Int} : DL.cutD (l.map D.int) (some 1) none = l.tail.map D.int := by
  rw [show (1 : Int) = ((1 : Nat) : Int) from rfl, cut_fr, List.drop_one, ← List.map_tail]
theorem row_getD {rs : List Rw} {c : Cfg} {m : Int} : rs.getD (c.st * m + c.md).toNat none = rowAt m rs c := by
  unfold rowAt; rw [List.getD_eq_getElem?_getD]
theorem trow_ok (T : Tx K mg) {h : DH} {Q : QD} {Qx : QX} {p : Addr} {s : Nat} {rs : List Rw} {a b : Int} (it : IsTape T h p 2 (s : Nat) rs) (hl : rs.length = 2 * s) (a0 : 0 ≤ a) (a1 : a < s) (b0 : 0 ≤ b) (b1 : b < 2) (q : Q (rowD (rs.getD (2 * a + b).toNat none)) h) : W_Tape_row T [.ref p, .int a, .int b] h Q Qx := by
  obtain ⟨rp, i1, i2⟩ := it
  have e : atI (rs.map rowD) (a * 2 + b) = some (rowD (rs.getD (2 * a + b).toNat none)) := by
    rw [atI_lt (by omega), List.getElem?_map, List.getD_eq_getElem?_getD, show (a * 2 + b).toNat = (2 * a + b).toNat by omega, List.getElem?_eq_getElem (by omega)]; rfl
  unfold tapeF at i1
  walk_at "df"
  walk_at "rt"
theorem rowsafter_ok (T : Tx K mg) {h : DH} {Q : QD} {Qx : QX} {r : Rw} {e : Int} (q : ∀ p, h p = none → Q (.ref p) (dup h p (.lst ((after r e).map srD)))) : W_rows_after_mark T [rowD r, .int e] h Q Qx := by
  cases r with
  | none =>
    unfold rowD
    walk_at "df"
    intro p f
    have := q p f
    walk_at "rt"
  | some r =>
    obtain ⟨w, v, t⟩ := r
    unfold rowD
    walk_at "df"
    simp only [after] at q
    split
    · rename_i z
      rw [if_pos z] at q
      walk_at "go"
      intro p f
      have := q p f
      walk_at "rt"
    · rename_i z
      rw [if_neg z] at q
      walk_at "go"
      intro p f
      have := q p f
      walk_at "rt"
theorem sub_dup2 {h hh : DH} {p : Addr} {o : DO} (s : Sub h hh) (e : hh p = some o) : Sub (dup h p o) hh := fun a u q => by
  by_cases z : a = p
  · subst z; rw [dup_same] at q; cases q; exact e
  · rw [dup_ne z] at q; exact s a u q
theorem sub_dup2' {h hh : DH} {p : Addr} {o : DO} (s : Sub h hh) (f : h p = none) : Sub h (dup hh p o) := sub_dup s f
theorem allrows_ok (T : Tx K mg) {h : DH} {Q : QD} {Qx : QX} {sp tp : Addr} {s : Nat} {rs : List Rw} {fs : List (Str × D)} (hs : h sp = some (.ins T.C_StackStair (("upper", .ref tp) :: fs))) (it : IsTape T h tp 2 (s : Nat) rs) (hl : rs.length = 2 * s) (h1 : s ≤ 500)
    (q : ∀ p, h p = none → Q (.ref p) (dup h p (.lst ((srows rs s).map srD)))) : W_StackStairddall_rows T [.ref sp] h Q Qx := by
  obtain ⟨rp, i1, i2⟩ := id it
  unfold tapeF at i1
  walk_at "df"
  intro p f
  have np : sp ≠ p := ne_fresh hs f
  have ntp : tp ≠ p := ne_fresh i1 f
  walk_at "go"
  rw [Int.toNat_natCast]
  refine for_up (fun i env hh => ∃ o2 o3 : Option D, env = [some (.ref sp), some (.ref p), o2, o3] ∧ hh p = some (.lst ((srows rs i).map srD)) ∧ Sub h hh) ?_ ?_ ⟨none, none, rfl, dup_same, Sub.new f⟩
  · rintro env hh ⟨o2, o3, rfl, e, sb⟩
    have := q p f
    walk_at "go"
    exact rt_sub (by assumption) (sub_dup2 sb e) this
  · rintro i env hh N hi ⟨o2, o3, rfl, e, sb⟩ hN
    have j1 := sb _ _ hs
    have j2 := sb _ _ i1
    have it2 := it.sub sb
    have len := srows_len rs i
    walk_at "go"
    have sA := sub_dup (o := .lst ((srows rs i).map srD ++ [.tup [.str "pop", .int 1, .int (9 * (i : Int) + 1), .int (9 * (i : Int) + 5)]])) sb f
    have kA : dup hh p (.lst ((srows rs i).map srD ++ [.tup [.str "pop", .int 1, .int (9 * (i : Int) + 1), .int (9 * (i : Int) + 5)]])) p = some (.lst ((srows rs i).map srD ++ [.tup [.str "pop", .int 1, .int (9 * (i : Int) + 1), .int (9 * (i : Int) + 5)]])) := dup_same
    generalize dup hh p (.lst ((srows rs i).map srD ++ [.tup [.str "pop", .int 1, .int (9 * (i : Int) + 1), .int (9 * (i : Int) + 5)]])) = hA at sA kA ⊢
    replace j1 := sA _ _ hs
    replace j2 := sA _ _ i1
    walk_at "go"
    refine trow_ok T (it.sub sA) hl (by omega) (by omega) (by decide) (by decide) ?_
    walk_at "go"
    refine rowsafter_ok T fun p2 f2 => ?_
    have n2 : p ≠ p2 := ne_fresh kA f2
    rw [show (2 * (i : Int) + 0).toNat = 2 * i by omega]
    have l1 := after_len (rs.getD (2 * i) none) (9 * (i : Int) + 1)
    generalize hL : (srows rs i).map srD ++ [D.tup [.str "pop", .int 1, .int (9 * (i : Int) + 1), .int (9 * (i : Int) + 5)]] = L at kA ⊢
    have lL : L.length = 9 * i + 1 := by rw [← hL, List.length_append, List.length_map, len]; rfl
    generalize hA1 : (after (rs.getD (2 * i) none) (9 * (i : Int) + 1)).map srD = A1 at f2 ⊢
    have lA : A1.length = 4 := by rw [← hA1, List.length_map, l1]
    walk_at "go"
    have sB := sub_dup2' (o := .lst (L ++ A1)) (sA.trans (Sub.new (o := .lst A1) f2)) f
    have kB : dup (dup hA p2 (.lst A1)) p (.lst (L ++ A1)) p = some (.lst (L ++ A1)) := dup_same
    generalize dup (dup hA p2 (.lst A1)) p (.lst (L ++ A1)) = hB at sB kB ⊢
    replace j1 := sB _ _ hs
    replace j2 := sB _ _ i1
    walk_at "go"
    refine trow_ok T (it.sub sB) hl (by omega) (by omega) (by decide) (by decide) ?_
    walk_at "go"
    refine rowsafter_ok T fun p3 f3 => ?_
    have n3 : p ≠ p3 := ne_fresh kB f3
    rw [show (2 * (i : Int) + 1).toNat = 2 * i + 1 by omega]
    have l2 := after_len (rs.getD (2 * i + 1) none) (9 * (i : Int) + 5)
    generalize hA2 : (after (rs.getD (2 * i + 1) none) (9 * (i : Int) + 5)).map srD = A2 at f3 ⊢
    have lA2 : A2.length = 4 := by rw [← hA2, List.length_map, l2]
    walk_at "go"
    refine hN _ _ ⟨_, _, rfl, ?_, sub_dup2' (sB.trans (Sub.new f3)) f⟩
    rw [dup_same, ← hL, ← hA1, ← hA2]
    unfold srows
    rw [List.range_succ, List.flatMap_append, List.flatMap_singleton, List.map_append, blk, List.map_cons, List.map_append]
    simp only [List.append_assoc, List.cons_append, List.nil_append]
    rfl
structure IsStair (T : Tx K mg) (h : DH) (sp tp lp : Addr) (s : Nat) (rs : List Rw) : Prop where
  o : h sp = some (.ins T.C_StackStair [("upper", .ref tp), ("lower", .ref lp)])
  t : IsTape T h tp 2 (s : Nat) rs
  l : IsStacks T h lp (srows rs s)
theorem IsStair.sub {T : Tx K mg} {h h' : DH} {sp tp lp : Addr} {s : Nat} {rs : List Rw} (a : IsStair T h sp tp lp s rs) (b : DL.Sub h h') : IsStair T h' sp tp lp s rs := ⟨b _ _ a.o, a.t.sub b, a.l.sub b⟩
theorem stair_init (T : Tx K mg) {h : DH} {Q : QD} {Qx : QX} {sp tp : Addr} {s : Nat} {rs : List Rw} (fs : h sp = none) (it : IsTape T h tp 2 (s : Nat) rs) (hl : rs.length = 2 * s) (ok : ∀ r ∈ rs, RowOk 2 (s : Nat) r) (h0 : 1 ≤ s) (h1 : s ≤ 500)
    (q : ∀ lp h', Sub h h' → IsStair T h' sp tp lp s rs → Q .non h') : W_StackStairdd_initdd T [.ref sp, .ref tp] (dup h sp (.ins T.C_StackStair [])) Q Qx := by
  obtain ⟨rp, i1, i2⟩ := id it
  unfold tapeF at i1
  have nst : sp ≠ tp := (ne_fresh i1 fs).symm
  have j1 := dup_old (o := .ins T.C_StackStair []) i1 fs
  walk_at "df"
  have s0 : Sub h (dup h sp (.ins T.C_StackStair (putD "upper" (.ref tp) []))) := Sub.new fs
  refine allrows_ok T dup_same (it.sub s0) hl h1 fun ap fa => ?_
  intro lp fl
  have nsl : sp ≠ lp := ne_fresh (dup_old dup_same fa) fl
  have hn := srows_len rs s
  refine stacks_init T dup_same (dup_old dup_same fl) (by omega) (by omega) (srows_ok ok) fun ip h3 fi e1 e2 keep => ?_
  have k0 := keep _ nsl _ (dup_old (dup_old dup_same fa) fl)
  have kk : ∀ b o, h b = some o → h3 b = some o := fun b o e => keep _ (ne_fresh (dup_old (s0 _ _ e) fa) fl) _ (dup_old (dup_old (s0 _ _ e) fa) fl)
  have nip : ip ≠ sp := by
    intro z; subst z
    rw [dup_ne nsl, dup_ne (ne_fresh dup_same fa), dup_same] at fi; cases fi
  walk_at "go"
  refine q lp _ (fun b o e => by rw [dup_ne (ne_fresh e fs)]; exact kk b o e) ⟨dup_same, ⟨rp, by rw [dup_ne (Ne.symm nst)]; exact kk _ _ i1, by rw [dup_ne (ne_fresh i2 fs)]; exact kk _ _ i2⟩, ⟨ip, (dup_ne (Ne.symm nsl)).trans e1, (dup_ne nip).trans e2⟩⟩
theorem sdown_ok (T : Tx K mg) {h : DH} {Q : QD} {Qx : QX} {p : D} {c : Cfg} {s : Nat} (oc : CfgOk 2 (s : Nat) c) (bg : c.big 10000) (q : Q c.down.d h) : W_StackStair_down T [p, c.d] h Q Qx := by
  obtain ⟨b1, b2⟩ := bg
  unfold Cfg.d
  have e := push_tz (x := c.md) oc.mk0 oc.r.2
  walk_at "df"
  refine trimmed_ok T (ms := c.md :: c.r) (fun x hx => ?_) ?_
  · rcases List.mem_cons.mp hx with rfl | z
    · exact oc.mk0
    · exact (oc.r.1 x z).1
  rw [e]
  walk_at "go"
  exact rt_go (by assumption) q
theorem sup_ok (T : Tx K mg) {h : DH} {Q : QD} {Qx : QX} {p : D} {c : SC} (h0 : 0 ≤ c.st)
    (q0 : c.st % 9 ≠ 0 → Q .non h) (q1 : c.st % 9 = 0 → Q (.tup [.int (c.st / 9), .tup (c.a.map D.int), .int (popM c.b), .tup (c.b.tail.map D.int)]) h) : W_StackStair_up T [p, c.d] h Q Qx := by
  unfold SC.d
  walk_at "df"
  split
  · rename_i z
    have q := q0 z
    walk_at "go"
    walk_at "rt"
  · rename_i z
    have q := q1 (by omega)
    walk_at "go"
    cases eb : c.b with
    | nil =>
      rw [eb] at q
      simp only [List.map_nil, List.isEmpty_nil]
      walk_at "go"
      rw [← List.map_nil, cut1]
      walk_at "go"
      walk_at "rt"
    | cons y ys =>
      rw [eb] at q
      simp only [List.map_cons, List.isEmpty_cons]
      walk_at "go"
      rw [← List.map_cons, cut1]
      walk_at "go"
      walk_at "rt"
theorem space_ok (T : Tx K mg) {h : DH} {Q : QD} {Qx : QX} {sp tp lp : Addr} {s : Nat} {rs : List Rw} {c : Cfg} (st : IsStair T h sp tp lp s rs) (hl : rs.length = 2 * s) (oc : CfgOk 2 (s : Nat) c)
    (q : Q (.int (match rowAt 2 rs c with | none => 0 | some (_, v, _) => if v = 1 then 2 else 4)) h) : W_StackStair_pace T [.ref sp, c.d] h Q Qx := by
  obtain ⟨i0, it, il⟩ := st
  obtain ⟨rp, i1, i2⟩ := id it
  unfold tapeF at i1
  unfold Cfg.d
  walk_at "df"
  refine trow_ok T it hl oc.st0 oc.st1 oc.mk0 oc.mk1 ?_
  rw [show 2 * c.st + c.md = c.st * 2 + c.md by omega, row_getD]
  cases e : rowAt 2 rs c with
  | none =>
    rw [e] at q
    unfold rowD
    walk_at "go"
    walk_at "rt"
  | some r =>
    obtain ⟨w, v, t⟩ := r
    rw [e] at q
    unfold rowD
    walk_at "go"
    dsimp only at q
    split
    · rename_i z; rw [if_pos z] at q; walk_at "go"; walk_at "rt"
    · rename_i z; rw [if_neg z] at q; walk_at "go"; walk_at "rt"
/-- the law's rows of a tape machine -/
theorem lawtaperows_ok (T : Tx K mg) {h : DH} {Q : QD} {Qx : QX} {dp : Addr} {ds : List Int} {m n : Nat} (hd : h dp = some (.lst (ds.map D.int))) (dr : Dr ds) (m0 : 1 ≤ m) (m1 : m ≤ 100) (h0 : 1 ≤ n) (h1 : m * n ≤ ds.length) (h2 : m * n ≤ 1000) (h3 : n ≤ 1000)
    (q : ∀ p (rs : List Rw), h p = none → rs.length = m * n → (∀ r ∈ rs, RowOk (m : Nat) (n : Nat) r) → Q (.ref p) (dup h p (.lst (rs.map rowD)))) : W_law_tape_rows T [.ref dp, .int (m : Nat), .int (n : Nat)] h Q Qx := by
  walk_at "df"
  intro p f
  have np : dp ≠ p := ne_fresh hd f
  walk_at "go"
  rw [show ((m : Nat) : Int) * ((n : Nat) : Int) = ((m * n : Nat) : Int) by rw [Int.natCast_mul]]
  walk_at "go"
  rw [Int.toNat_natCast]
  refine for_up (fun i env hh => ∃ (rs : List Rw) (o4 o5 o6 : Option D), env = [some (.ref dp), some (.int (m : Nat)), some (.int (n : Nat)), some (.ref p), o4, o5, o6] ∧ hh = dup h p (.lst (rs.map rowD)) ∧ rs.length = i ∧ ∀ r ∈ rs, RowOk (m : Nat) (n : Nat) r) ?_ ?_ ⟨[], none, none, none, rfl, rfl, rfl, fun _ z => (nomatch z)⟩
  · rintro env hh ⟨rs, o4, o5, o6, rfl, rfl, hl, ok⟩
    have := q p rs f hl ok
    walk_at "go"
    walk_at "rt"
  · rintro i env hh N hi ⟨rs, o4, o5, o6, rfl, rfl, hl, ok⟩ hN
    have e1 : atI (ds.map D.int) (i : Nat) = some (.int ds[i]) := by rw [atN, List.getElem?_map, List.getElem?_eq_getElem (by omega)]; rfl
    obtain ⟨g0, g1⟩ := dr.get (i := i) (by omega)
    generalize ds[i] = d at e1 g0 g1
    have m1 := Int.emod_nonneg d (b := (m : Int)) (by omega)
    have m2 := Int.emod_lt_of_pos d (b := (m : Int)) (by omega)
    have m3 := Int.emod_nonneg (d / 8) (b := (n : Int)) (by omega)
    have m4 := Int.emod_lt_of_pos (d / 8) (b := (n : Int)) (by omega)
    have last : ∀ (r : Rw) (o3 o4 : Option D), RowOk (m : Nat) (n : Nat) r → N [some (.ref dp), some (.int (m : Nat)), some (.int (n : Nat)), some (.ref p), o3, o4, some (rowD r)] (dup h p (.lst (rs.map rowD ++ [rowD r]))) := by
      intro r o3 o4 hr
      refine hN _ _ ⟨rs ++ [r], _, _, _, rfl, by rw [List.map_append]; rfl, by rw [List.length_append, hl]; rfl, ?_⟩
      intro r' hr'
      rcases List.mem_append.mp hr' with z | z
      · exact ok _ z
      · rw [List.mem_singleton.mp z]; exact hr
    walk_at "go"
    split
    · walk_at "go"
      exact last none _ _ trivial
    · walk_at "go"
      exact last (some (d % m, 1 - 2 * (d / 4 % 2), d / 8 % n)) _ _ ⟨m1, m2, by omega, m3, m4⟩
/-! the promise of the counter stair -/
theorem CC.Off.up (T : Tx K mg) {h : DH} {Q : QD} {Qx : QX} {p : D} {cc : CC} (o : cc.Off) (l : cc.cs.length = 3) (q : Q .non h) : W_CounterStair_up T [p, cc.d] h Q Qx := by
  obtain ⟨st, cs⟩ := cc
  match cs, l with
  | [a, b, x], _ => exact cst_up_no T o q
theorem cst_downC (T : Tx K mg) {h : DH} {Q : QD} {Qx : QX} {p : D} {c : SC} {s : Int} (oc : c.Ok s) (q : Q c.lowC.d h) : W_CounterStair_down T [p, c.d] h Q Qx := cst_down T oc q
theorem cst_upC (T : Tx K mg) {h : DH} {Q : QD} {Qx : QX} {p : D} {c : SC} {s : Int} (oc : c.Ok s) (hl : c.big 1000) (q : Q c.d h) : W_CounterStair_up T [p, c.lowC.d] h Q Qx := cst_up_yes T oc hl q
theorem cst_paceW (T : Tx K mg) {h : DH} {Q : QD} {Qx : QX} {p up lo : Addr} {c : SC} {v : Int} {rs : List SRw} (ic : IsCSt T h p up lo) (im : IsStacks T h up rs) (ok : ∀ r ∈ rs, SOk (rs.length : Nat) r) (oc : c.Ok (rs.length : Nat)) (e : c.paceC rs = v) (q : Q (.int v) h) : W_CounterStair_pace T [.ref p, c.d] h Q Qx := cst_pace T ic im ok oc (by rw [e]; exact q)
theorem stk_stepC (T : Tx K mg) {h : DH} {Q : QD} {Qx : QX} {p : Addr} {rs : List SRw} {c c' : SC} (im : IsStacks T h p rs) (ok : ∀ r ∈ rs, SOk (rs.length : Nat) r) (oc : c.Ok (rs.length : Nat)) (bg : c.big 10000) (e : c.step rs = some c') (q : Q c'.d h) : W_Stacks_step T [.ref p, c.d] h Q Qx :=
  stacks_step T im ok oc bg (fun e' => by rw [e] at e'; cases e') fun c2 e' => by rw [e] at e'; cases e'; exact q
theorem lowC_ok {rs : List SRw} {c : SC} (oc : c.Ok (rs.length : Nat)) : c.lowC.Ok 3 ((lows rs).length : Nat) := by
  have z0 := oc.s0
  have z1 := oc.s1
  rw [lows_len]
  refine ⟨?_, ?_, rfl, ?_⟩
  · show 0 ≤ 7 * c.st; omega
  · show 7 * c.st < _; omega
  · intro x hx
    simp only [SC.lowC, List.mem_cons, List.not_mem_nil, or_false] at hx
    rcases hx with rfl | rfl | rfl <;> omega
theorem lowC_none {rs : List SRw} {c : SC} (oc : c.Ok (rs.length : Nat)) (e : c.step rs = none) : c.lowC.step (lows rs) = none ∧ c.paceC rs = 0 := by
  have z0 := oc.s0
  have z1 := oc.s1
  have er : rs.getD c.st.toNat none = none := by
    unfold SC.step at e
    cases er : rs.getD c.st.toNat none with
    | none => rfl
    | some r => obtain ⟨w, i, t, u⟩ := r; rw [er] at e; cases w <;> cases e
  refine ⟨?_, by unfold SC.paceC; rw [er]⟩
  obtain ⟨p, hp⟩ := Int.eq_ofNat_of_zero_le z0
  rw [hp, Int.toNat_natCast] at er
  have a := lowsN_at (rs := rs) (p := p) (j := 0) (by decide) rs.length (by omega)
  rw [er] at a
  have a : (lows rs).getD (7 * p + 0) none = none := a
  unfold CC.step SC.lowC
  dsimp only
  rw [hp, show (7 * (p : Int)).toNat = 7 * p + 0 by omega, a]
local macro_rules | `(tactic| walk_at "wcall") => `(tactic| ((with_reducible refine cst_downC _ (s := ?s1) ?g1 ?g2); (case g1 => with_reducible assumption)))
local macro_rules | `(tactic| walk_at "wcall") => `(tactic| ((with_reducible refine cst_upC _ (s := ?s1) ?g1 ?g3 ?g2); (case g1 => with_reducible assumption); (case g3 => with_reducible assumption)))
local macro_rules | `(tactic| walk_at "wcall") => `(tactic| ((with_reducible refine CC.Off.up _ ?g1 ?g3 ?g2); (case g1 => with_reducible assumption); (case g3 => with_reducible assumption)))
local macro_rules | `(tactic| walk_at "wcall") => `(tactic| ((with_reducible refine cst_paceW _ (up := ?s1) (lo := ?s2) (rs := ?s3) (v := ?s4) ?g1 ?g2 ?g3 ?g4 ?g5 ?g6); (case g1 => walk_at "wi"); (case g2 => walk_at "wi"); (case g3 => with_reducible assumption); (case g4 => with_reducible assumption); (case g5 => with_reducible assumption)))
local macro_rules | `(tactic| walk_at "wcall") => `(tactic| ((with_reducible refine stk_stepC _ (rs := ?s1) (c' := ?s2) ?g1 ?g3 ?g4 ?g5 ?g6 ?g2); (case g1 => walk_at "wi"); (case g3 => with_reducible assumption); (case g4 => with_reducible assumption); (case g5 => with_reducible assumption); (case g6 => with_reducible assumption)))
local macro_rules | `(tactic| walk_at "wix") => `(tactic| ((refine IsCSt.sub (h := ?s1) ?g1 ?g2); (case g1 => with_reducible assumption); (case g2 => walk_at "ws")))
theorem pace_le {rs : List SRw} {c : SC} (ok : ∀ r ∈ rs, SOk (rs.length : Nat) r) (oc : c.Ok (rs.length : Nat)) (bg : c.big 10) : c.paceC rs ≤ 10000 := by
  have ho := SOk.getD ok c.st.toNat
  have nb : ∀ i : Int, i = 0 ∨ i = 1 → c.num i < 1024 := by
    have lt : ∀ l : List Int, IsBits l → l.length ≤ 10 → val l < 1024 := fun l hb h => Nat.lt_of_lt_of_le (val_lt hb) (Nat.pow_le_pow_right (by decide) h)
    rintro i (rfl | rfl)
    · rw [SC.num0]; exact lt _ oc.a.1 bg.1
    · rw [SC.num1]; exact lt _ oc.b.1 bg.2
  unfold SC.paceC
  cases er : rs.getD c.st.toNat none with
  | none => show (0 : Int) ≤ 10000; decide
  | some r =>
    obtain ⟨w, i, t, u⟩ := r
    rw [er] at ho
    have := nb i ho.1
    cases w
    · dsimp only; omega
    · have ht : t = 0 ∨ t = 1 := ho.2.2
      dsimp only; omega
/-! words: None or a tuple of ints -/
/-- a word: None or ints -/
abbrev Wd := Option (List Int)
def wdD : Wd → D
  | none => .non
  | some l => .tup (l.map D.int)
theorem pl_wd (r : Wd) : plN 1 (wdD r) = true := by
  cases r with
  | none => rfl
  | some l => exact plT (pl_ints l)
theorem pl_wds (rs : List Wd) : (rs.map wdD).all (plN 1) = true := by
  rw [List.all_map, List.all_eq_true]; intro x _; exact pl_wd x
local macro_rules | `(tactic| walk_at "plx") => `(tactic| with_reducible exact plA_le (pl_wds _) (by decide))
local macro_rules | `(tactic| walk_at "plx") => `(tactic| with_reducible exact plN_le (pl_wd _) (by decide))
/-- are_numbers of ints -/
theorem arenum_ints (T : Tx K mg) {h : DH} {Q : QD} {Qx : QX} {l : List Int} {a b : Int} (hl : l.length ≤ 1000000) (q : Q (.bl (l.all fun i => decide (a ≤ i ∧ i ≤ b))) h) : W_are_numbers T [.tup (l.map D.int), .int a, .int b] h Q Qx := by
  walk_at "wf"
  refine lc_go (fun j => .bl (decide (a ≤ l.getD j 0 ∧ l.getD j 0 ≤ b))) (fun _ _ => trivial) (by show (l.map D.int).length < 16777216; rw [List.length_map]; omega) ?_ ?_
  · intro j x h' R hx sb hR
    rw [List.getElem?_map] at hx
    obtain ⟨i, hi, rfl⟩ := Option.map_eq_some_iff.mp hx
    have e : l.getD j 0 = i := by rw [List.getD_eq_getElem?_getD, hi]; rfl
    rw [e] at hR
    walk_at "w"
    exact hR _ (by walk_at "ws")
  · intro p h' f sb e
    rw [List.length_map] at e
    refine allL_r e ?_
    have e2 : (List.map (fun j => decide (a ≤ l.getD j 0 ∧ l.getD j 0 ≤ b)) (List.range l.length)) = l.map fun i => decide (a ≤ i ∧ i ≤ b) := by
      refine List.ext_getElem (by simp) fun k h1 h2 => ?_
      rw [List.getElem_map, List.getElem_map, List.getElem_range, List.getD_eq_getElem?_getD, List.getElem?_eq_getElem (by simpa using h2)]; rfl
    rw [e2, List.all_map]
    exact rt_sub (by assumption) sb q
theorem arenum_f (T : Tx K mg) {h : DH} {Q : QD} {Qx : QX} {xs : List D} {a b : Int} (f : Nat → Bool) (hl : xs.length ≤ 1000000) (hs : ∀ j x, xs[j]? = some x → ∀ (h' : DH) (R : QD), R (.bl (f j)) h' → W_is_number T [x, .int a, .int b] h' R (fun _ _ => False)) (q : Q (.bl (((List.range xs.length).map f).all id)) h) : W_are_numbers T [.tup xs, .int a, .int b] h Q Qx := by
  walk_at "wf"
  refine lc_go (fun j => .bl (f j)) (fun _ _ => trivial) (by show xs.length < 16777216; omega) ?_ ?_
  · intro j x h' R hx sb hR
    walk_at "w"
    exact hs j x hx _ _ (hR _ (by walk_at "ws"))
  · intro p h' f' sb e
    refine allL_r e ?_
    exact rt_sub (by assumption) sb q
theorem num_i {T : Tx K mg} {i a b : Int} {h' : DH} {R : QD} {c : Bool} (hc : decide (a ≤ i ∧ i ≤ b) = c) (q : R (.bl c) h') : W_is_number T [.int i, .int a, .int b] h' R (fun _ _ => False) := isnum_int T (by rw [hc]; exact q)
theorem wd_at {ws : List Wd} {z : Int} (h0 : 0 ≤ z) (h1 : z < ws.length) : atI (ws.map wdD) z = some (wdD (ws.getD z.toNat none)) := by
  rw [atI_lt h0, List.getElem?_map, List.getD_eq_getElem?_getD, List.getElem?_eq_getElem (by omega)]; rfl
theorem heap_l {h : DH} {p1 p2 : Addr} {a b c d : DO} (n : p2 ≠ p1) : dup (dup (dup (dup h p1 a) p2 b) p2 c) p1 d = dup (dup h p1 d) p2 c := by
  rw [dup_dup]
  funext x
  by_cases x1 : x = p1
  · subst x1; rw [dup_same, dup_ne (Ne.symm n), dup_same]
  · rw [dup_ne x1]
    by_cases x2 : x = p2
    · subst x2; rw [dup_same, dup_same]
    · rw [dup_ne x2, dup_ne x2, dup_ne x1, dup_ne x1]
theorem heap_r {h : DH} {p1 p2 : Addr} {a b c d : DO} (n : p2 ≠ p1) : dup (dup (dup (dup h p1 a) p2 b) p1 c) p2 d = dup (dup h p1 c) p2 d := by
  funext x
  by_cases x2 : x = p2
  · subst x2; rw [dup_same, dup_same]
  · rw [dup_ne x2, dup_ne x2]
    by_cases x1 : x = p1
    · subst x1; rw [dup_same, dup_same]
    · rw [dup_ne x1, dup_ne x2, dup_ne x1, dup_ne x1]
theorem tapetail_ok {E : En} {hh : DH} {pb pa : Addr} {lb la : List Int} {w k : Int} {e0 e1 e2 e3 e4 e5 e6 e7 e8 e10 e12 : Option D} (hb : hh pb = some (.lst (lb.map D.int).reverse)) (ha : hh pa = some (.lst (la.map D.int).reverse)) (ne : pb ≠ pa) (h1 : lb.length ≤ 10000)
    (q : E.nx [e0, e1, e2, e3, e4, some (.int (popM la)), e6, e7, e8, some (.int (k + 1)), e10, some (.int w), e12, some (.ref pb), some (.ref pa)] (dup (dup hh pb (.lst ((push w lb).map D.int).reverse)) pa (.lst (la.tail.map D.int).reverse))) :
    wSeq (wIfS (wOr (wTru (wVar 13)) (wB (wOp2 (gEq true) (wVar 11) (wC (.int 0))))) (wExpr (wAppend (wVar 13) (wCons (wVar 11) wNil))) wNext)
      (wSeq (wSet 5 (wIf (wTru (wVar 14)) (wPop (wVar 14)) (wC (.int 0))))
        (wAugI 9 (fun a b => a + b) (wC (.int 1)))) E [e0, e1, e2, e3, e4, e5, e6, e7, e8, some (.int k), e10, some (.int w), e12, some (.ref pb), some (.ref pa)] hh := by
  refine seq_i fun N hN => ?_
  have go : N [e0, e1, e2, e3, e4, e5, e6, e7, e8, some (.int k), e10, some (.int w), e12, some (.ref pb), some (.ref pa)] (dup hh pb (.lst ((push w lb).map D.int).reverse)) := by
    refine hN _ _ ?_
    refine seq_i fun N1 hN1 => ?_
    have ha' : dup hh pb (.lst ((push w lb).map D.int).reverse) pa = some (.lst (la.map D.int).reverse) := by rw [dup_ne (Ne.symm ne)]; exact ha
    cases la with
    | nil =>
      have tr : ∀ QT, Tru (.ref pa) (dup hh pb (.lst ((push w lb).map D.int).reverse)) QT = QT false (dup hh pb (.lst ((push w lb).map D.int).reverse)) := by
        intro QT; unfold Tru; simp only [ha']; rfl
      walk_at "ev"
      simp only [tr]
      walk_at "ev"
      refine hN1 _ _ ?_
      walk_at "ev"
      rw [show ([] : List Int).tail = [] from rfl, dup_id ha'] at q
      exact q
    | cons x xs =>
      have tr : ∀ QT, Tru (.ref pa) (dup hh pb (.lst ((push w lb).map D.int).reverse)) QT = QT true (dup hh pb (.lst ((push w lb).map D.int).reverse)) := by
        intro QT; unfold Tru; simp only [ha']
        rw [List.map_cons, List.reverse_cons]
        cases (xs.map D.int).reverse <;> rfl
      walk_at "ev"
      simp only [tr]
      walk_at "ev"
      simp only [ha', rev_last, rev_pop]
      walk_at "ev"
      refine hN1 _ _ ?_
      walk_at "ev"
      exact q
  cases lb with
  | nil =>
    have tr : ∀ QT, Tru (.ref pb) hh QT = QT false hh := by
      intro QT; unfold Tru; simp only [hb]; rfl
    walk_at "ev"
    simp only [tr]
    walk_at "ev"
    by_cases z : w = 0
    · subst z
      simp
      walk_at "ev"
      rw [show push 0 [] = [] from rfl, dup_id hb] at go
      exact go
    · have e1 : (if True then !decide (w = 0) else decide (w = 0)) = true := by simp [z]
      rw [← rev_push (fun y => z y.2)] at go
      simp [z]
      walk_at "ev"
      simp only [hb]
      walk_at "ev"
      try simp only [hb]
      walk_at "ev"
      refine ⟨by rw [List.length_reverse, List.length_map]; show 0 < 16777216; omega, go⟩
  | cons x xs =>
    have tr : ∀ QT, Tru (.ref pb) hh QT = QT true hh := by
      intro QT; unfold Tru; simp only [hb]
      rw [List.map_cons, List.reverse_cons]
      cases (xs.map D.int).reverse <;> rfl
    walk_at "ev"
    simp only [tr]
    walk_at "ev"
    simp only [hb]
    walk_at "ev"
    try simp only [hb]
    rw [← rev_push (l := x :: xs) (fun y => List.cons_ne_nil _ _ y.1)] at go
    walk_at "ev"
    refine ⟨by rw [List.length_reverse, List.length_map]; exact Nat.lt_of_le_of_lt h1 (by show 10000 < 16777216; omega), go⟩
theorem taperun_ok (T : Tx K mg) {h : DH} {Q : QD} {Qx : QX} {p : Addr} {m s : Int} {rs : List Rw} {c : Cfg} {n : Nat} (it : IsTape T h p m s rs) (hm : 2 ≤ m) (hm' : m ≤ 16) (hl : rs.length = (m * s).toNat) (ok : ∀ r ∈ rs, RowOk m s r) (oc : CfgOk m s c) (bg : c.big 200) (hn : n ≤ 200)
    (q : Q (.tup [(runZ m rs n c).1.d, .int ((runZ m rs n c).2 : Nat)]) h) : W_Tape_run T [.ref p, c.d, .int (n : Nat)] h Q Qx := by
  obtain ⟨rp, i1, i2⟩ := it
  unfold Cfg.d
  refine def_i rfl fun E hrt _ _ => ?_
  walk_at "en"
  refine seq_i fun N hN => ?_
  walk_at "ev"
  refine ⟨rfl, hN _ _ ?_⟩
  refine seq_i fun N1 hN1 => ?_
  walk_at "ev"
  intro p1 f1
  refine hN1 _ _ ?_
  refine seq_i fun N2 hN2 => ?_
  walk_at "ev"
  intro p2 f2
  refine hN2 _ _ ?_
  have n21 : p2 ≠ p1 := by intro z; subst z; rw [dup_same] at f2; cases f2
  rw [dup_ne n21] at f2
  have np1 : p ≠ p1 := ne_fresh i1 f1
  have np2 : p ≠ p2 := ne_fresh i1 f2
  have nr1 : rp ≠ p1 := ne_fresh i2 f1
  have nr2 : rp ≠ p2 := ne_fresh i2 f2
  refine seq_i fun N3 hN3 => ?_
  walk_at "ev"
  refine hN3 _ _ ?_
  refine seq_i fun N4 hN4 => ?_
  refine while_i (fun k env hh => ∃ (c' : Cfg) (tk : Nat) (o10 o11 o12 o13 o14 : Option D), tk + k = n ∧ env = [some (.ref p), some c.d, some (.int n), some (.int c'.st), some (.tup (c.l.map D.int)), some (.int c'.md), some (.tup (c.r.map D.int)), some (.ref p1), some (.ref p2), some (.int tk), o10, o11, o12, o13, o14] ∧
      hh = dup (dup h p1 (.lst (c'.l.map D.int).reverse)) p2 (.lst (c'.r.map D.int).reverse) ∧ CfgOk m s c' ∧ c'.big (200 + tk) ∧ (runZ m rs n c).1 = (runZ m rs k c').1 ∧ (runZ m rs n c).2 = (runZ m rs k c').2 + tk) n ?_ ⟨c, 0, none, none, none, none, none, Nat.zero_add _, rfl, rfl, oc, bg, rfl, rfl⟩
  rintro k env hh N5 ⟨c', tk, o10, o11, o12, o13, o14, hk, rfl, rfl, oc', bg', e1, e2⟩ hN5
  have fp : dup (dup h p1 (.lst (c'.l.map D.int).reverse)) p2 (.lst (c'.r.map D.int).reverse) p = some (.ins T.C_Tape (tapeF m s rp)) := by rw [dup_ne np2, dup_ne np1]; exact i1
  have fr : dup (dup h p1 (.lst (c'.l.map D.int).reverse)) p2 (.lst (c'.r.map D.int).reverse) rp = some (.lst (rs.map rowD)) := by rw [dup_ne nr2, dup_ne nr1]; exact i2
  have g1 : dup (dup h p1 (.lst (c'.l.map D.int).reverse)) p2 (.lst (c'.r.map D.int).reverse) p1 = some (.lst (c'.l.map D.int).reverse) := by rw [dup_ne (Ne.symm n21), dup_same]
  have g2 : dup (dup h p1 (.lst (c'.l.map D.int).reverse)) p2 (.lst (c'.r.map D.int).reverse) p2 = some (.lst (c'.r.map D.int).reverse) := dup_same
  have done : ∀ o10 : Option D, (runZ m rs k c') = (c', 0) → N4 [some (.ref p), some c.d, some (.int n), some (.int c'.st), some (.tup (c.l.map D.int)), some (.int c'.md), some (.tup (c.r.map D.int)), some (.ref p1), some (.ref p2), some (.int tk), o10, o11, o12, o13, o14] (dup (dup h p1 (.lst (c'.l.map D.int).reverse)) p2 (.lst (c'.r.map D.int).reverse)) := by
    intro o10 e
    rw [e] at e1 e2
    rw [e1, e2] at q
    refine hN4 _ _ ?_
    walk_at "ev"
    simp only [g1]
    walk_at "ev"
    intro p3 f3
    have x1 : p3 ≠ p2 := by intro z; subst z; rw [g2] at f3; cases f3
    have x2 : p3 ≠ p1 := by intro z; subst z; rw [g1] at f3; cases f3
    simp only [dup_same, dup_ne (Ne.symm x1)]
    walk_at "ev"
    intro p4 f4
    have sub : DL.Sub h (dup (dup (dup (dup h p1 (DO.lst (List.map D.int c'.l).reverse)) p2 (DO.lst (List.map D.int c'.r).reverse)) p3 (DO.lst (List.map D.int c'.l).reverse.reverse)) p4 (DO.lst (List.map D.int c'.r).reverse.reverse)) :=
      (Sub.new f1).trans ((Sub.new (by rw [dup_ne n21]; exact f2)).trans ((Sub.new f3).trans (Sub.new f4)))
    refine hrt _ _ _ sub ?_
    rw [List.reverse_reverse, List.reverse_reverse]
    rw [show ((c', 0) : Cfg × Nat).2 + tk = tk from Nat.zero_add tk] at q
    exact q
  walk_at "ev"
  cases k with
  | zero =>
    rw [if_neg (by omega)]
    exact done _ rfl
  | succ k =>
    rw [if_pos (by omega)]
    have er := row_get hm hl oc'
    have okr := row_ok (c := c') ok
    refine seq_i fun N6 hN6 => ?_
    walk_at "ev"
    simp only [fp, tape_rows, tape_marks]
    walk_at "ev"
    simp only [fr, er]
    walk_at "ev"
    refine ⟨⟨⟨cmulR (by omega) (by omega), hN6 _ _ ?_⟩, tape_cls fp⟩, tape_cls fp⟩
    refine seq_i fun N7 hN7 => ?_
    cases e : rowAt m rs c' with
    | none =>
      unfold rowD
      walk_at "ev"
      exact done _ (run_stop e _)
    | some r =>
      obtain ⟨w, v, t⟩ := r
      rw [e] at okr
      have r3 := okr.2.2.1
      rw [run_go e] at e1 e2
      have next := step_cfg hm oc' okr
      have nbig := step_big (w := w) (v := v) (t := t) bg'
      unfold rowD
      walk_at "ev"
      refine hN7 _ _ ?_
      refine seq_i fun N8 hN8 => ?_
      walk_at "ev"
      refine ⟨rfl, hN8 _ _ ?_⟩
      refine seq_i fun N9 hN9 => ?_
      have b1 := bg'.1
      have b2 := bg'.2
      rcases r3 with rfl | rfl
      · rw [stepZ, if_neg (by decide)] at e1 e2 next nbig
        walk_at "ev"
        (try rw [if_neg (by decide)])
        walk_at "ev"
        refine ⟨rfl, hN9 _ _ ?_⟩
        refine tapetail_ok g2 g1 n21 (by omega) (hN5 k _ _ (by omega) ⟨_, tk + 1, _, _, _, _, _, by omega, rfl, ?_, next, nbig, e1, ?_⟩)
        · rw [heap_l n21]
        · rw [e2]; show _ + 1 + tk = _ + (tk + 1); omega
      · rw [stepZ, if_pos rfl] at e1 e2 next nbig
        walk_at "ev"
        refine ⟨rfl, hN9 _ _ ?_⟩
        refine tapetail_ok g1 g2 (Ne.symm n21) (by omega) (hN5 k _ _ (by omega) ⟨_, tk + 1, _, _, _, _, _, by omega, rfl, ?_, next, nbig, e1, ?_⟩)
        · rw [heap_r n21]
        · rw [e2]; show _ + 1 + tk = _ + (tk + 1); omega
def cfgO : Option Cfg → D
  | none => .non
  | some c => c.d
def stepO (m : Int) (rs : List Rw) (c : Cfg) : Option Cfg := match rowAt m rs c with
  | none => none
  | some (w, v, t) => some (stepZ w v t c)
theorem tapestep_ok (T : Tx K mg) {h : DH} {Q : QD} {Qx : QX} {p : Addr} {m s : Int} {rs : List Rw} {c : Cfg} (it : IsTape T h p m s rs) (hm : 2 ≤ m) (hm' : m ≤ 16) (hl : rs.length = (m * s).toNat) (ok : ∀ r ∈ rs, RowOk m s r) (oc : CfgOk m s c) (bg : c.big 200)
    (q : Q (cfgO (stepO m rs c)) h) : W_Tape_step T [.ref p, c.d] h Q Qx := by
  refine def_i rfl fun E hrt _ _ => ?_
  walk_at "en"
  refine seq_i fun N hN => ?_
  walk_at "ev"
  refine ⟨tape_ins it (fun _ => rfl), taperun_ok (n := 1) T it hm hm' hl ok oc bg (by omega) ?_⟩
  unfold stepO at q
  cases e : rowAt m rs c with
  | none =>
    rw [e] at q
    rw [run_stop e]
    walk_at "ev"
    refine ⟨rfl, hN _ _ ?_⟩
    walk_at "ev"
    exact hrt _ _ _ (.refl _) q
  | some r =>
    obtain ⟨w, v, t⟩ := r
    rw [e] at q
    rw [run_go e]
    walk_at "ev"
    refine ⟨rfl, hN _ _ ?_⟩
    walk_at "ev"
    exact hrt _ _ _ (.refl _) q
/-! counters as a tape: the tape's rows and what they do -/
theorem uflat_len {α : Type} {f : Nat → List α} {k : Nat} (hk : ∀ q, (f q).length = k) : ∀ s, ((List.range s).flatMap f).length = k * s
  | 0 => by simp
  | s + 1 => by rw [List.range_succ, List.flatMap_append, List.length_append, uflat_len hk s, List.flatMap_singleton, hk, Nat.mul_succ]
theorem uflat_get {α : Type} {f : Nat → List α} {k : Nat} (hk : ∀ q, (f q).length = k) : ∀ (s q j : Nat), q < s → j < k → ((List.range s).flatMap f)[k * q + j]? = (f q)[j]?
  | 0, q, j, h, _ => by omega
  | s + 1, q, j, h, hj => by
    rw [List.range_succ, List.flatMap_append, List.flatMap_singleton]
    rcases Nat.lt_or_ge q s with hlt | hge
    · have : k * (q + 1) ≤ k * s := Nat.mul_le_mul_left k hlt
      rw [List.getElem?_append_left (by rw [uflat_len hk]; rw [Nat.mul_succ] at this; omega)]
      exact uflat_get hk s q j hlt hj
    · have e : q = s := by omega
      subst e
      rw [List.getElem?_append_right (by rw [uflat_len hk]; omega), uflat_len hk, Nat.add_sub_cancel_left]
/-- does the mark hold the counter's bit -/
def hasB (m b : Int) : Prop := m / b % 2 = 1
instance (m b : Int) : Decidable (hasB m b) := inferInstanceAs (Decidable (_ = _))
/-- the row of part p of counter state q at mark m (o: the origin) -/
def upR (r : CRw) (q o : Int) (p : Nat) (m : Int) : Rw := match p with
  | 0 => if m = o then (match r with | none => none | some _ => some (o, 1, 4 * q + 1)) else some (m, -1, 4 * q)
  | 1 => if o ≤ m then none else match r with
    | none => none
    | some (true, i, t, _) => if hasB m (2 ^ i.toNat) then some (m, 1, 4 * q + 1) else some (m + 2 ^ i.toNat, -1, 4 * t)
    | some (false, i, _, u) => if hasB m (2 ^ i.toNat) then some (m, 1, 4 * q + 2) else some (m, -1, 4 * u)
  | 2 => if o ≤ m then none else match r with
    | some (false, i, _, _) => if hasB m (2 ^ i.toNat) then some (m, 1, 4 * q + 2) else some (m, -1, 4 * q + 3)
    | _ => none
  | _ => if o ≤ m then none else match r with
    | some (false, i, t, _) => if hasB m (2 ^ i.toNat) then some (m - 2 ^ i.toNat, -1, 4 * t) else none
    | _ => none
/-- the rows of one counter state -/
def upB (r : CRw) (q : Nat) (o : Nat) : List Rw := (List.range 4).flatMap fun p => (List.range (2 * o)).map fun m : Nat => upR r (q : Int) (o : Int) p (m : Int)
def upRows (rs : List CRw) (o : Nat) (n : Nat) : List Rw := (List.range n).flatMap fun q => upB (rs.getD q none) q o
theorem upB_len (r : CRw) (q o : Nat) : (upB r q o).length = 8 * o := by
  unfold upB
  rw [uflat_len (k := 2 * o) (fun p => by rw [List.length_map, List.length_range])]
  omega
theorem upRows_len (rs : List CRw) (o n : Nat) : (upRows rs o n).length = 8 * o * n := uflat_len (fun q => upB_len _ _ _) n
theorem upRows_at {rs : List CRw} {o n q p m : Nat} (hq : q < n) (hp : p < 4) (hm : m < 2 * o) : (upRows rs o n)[(4 * q + p) * (2 * o) + m]? = some (upR (rs.getD q none) q o p m) := by
  have e : (4 * q + p) * (2 * o) + m = (8 * o) * q + (2 * o * p + m) := by
    rw [Nat.add_mul, Nat.mul_mul_mul_comm, Nat.mul_comm p, Nat.mul_assoc 8, Nat.mul_comm o q]; omega
  have b : 2 * o * p + m < 8 * o := by
    have : 2 * o * p ≤ 2 * o * 3 := Nat.mul_le_mul_left _ (by omega)
    omega
  rw [e, upRows, uflat_get (fun q => upB_len _ _ _) n q _ hq b, upB, uflat_get (fun p => by rw [List.length_map, List.length_range]) 4 p m hp hm, List.getElem?_map, List.getElem?_range hm]; rfl
/-- the row at a configuration -/
theorem upRow {rs : List CRw} {o n q p : Nat} {st md : Int} {l r : List Int} (hst : st = 4 * (q : Int) + p) (hq : q < n) (hp : p < 4) (h0 : 0 ≤ md) (h1 : md < 2 * o) : rowAt ((2 * o : Nat) : Int) (upRows rs o n) ⟨st, l, md, r⟩ = upR (rs.getD q none) q o p md := by
  obtain ⟨m, rfl⟩ := Int.eq_ofNat_of_zero_le h0
  have a := upRows_at (rs := rs) hq hp (m := m) (o := o) (by omega)
  unfold rowAt
  dsimp only
  rw [hst, show (4 * (q : Int) + (p : Int)) * ((2 * o : Nat) : Int) + (m : Int) = (((4 * q + p) * (2 * o) + m : Nat) : Int) by rw [Int.natCast_add, Int.natCast_mul]; rfl, Int.toNat_natCast, a]; rfl
/-! a stretch of marks: g a, .., g (N - 1) -/
def seg (g : Nat → Int) (a N : Nat) : List Int := (List.range' a (N - a)).map g
/-- g is over 0 just below N -/
def Top (g : Nat → Int) (N : Nat) : Prop := ∀ k, (k < N → 0 < g k) ∧ (N ≤ k → g k = 0)
theorem seg_nil {g : Nat → Int} {a N : Nat} (h : N ≤ a) : seg g a N = [] := by unfold seg; rw [Nat.sub_eq_zero_of_le h]; rfl
theorem seg_cons {g : Nat → Int} {a N : Nat} (h : a < N) : seg g a N = g a :: seg g (a + 1) N := by
  unfold seg; rw [show N - a = (N - (a + 1)) + 1 by omega, List.range'_succ, List.map_cons]
theorem seg_len {g : Nat → Int} {a N : Nat} : (seg g a N).length = N - a := by unfold seg; rw [List.length_map, List.length_range']
theorem seg_pop {g : Nat → Int} {N : Nat} (t : Top g N) (a : Nat) : popM (seg g a N) = g a ∧ (seg g a N).tail = seg g (a + 1) N ∧ push (g a) (seg g (a + 1) N) = seg g a N := by
  rcases Nat.lt_or_ge a N with h | h
  · rw [seg_cons h]
    refine ⟨rfl, rfl, ?_⟩
    unfold push
    rw [if_neg]
    rintro ⟨_, z⟩
    have := (t a).1 h
    omega
  · rw [seg_nil h, seg_nil (by omega), (t a).2 h]; exact ⟨rfl, rfl, rfl⟩
theorem seg_eq {g g' : Nat → Int} {N N' a : Nat} (t : Top g N) (t' : Top g' N') (h : ∀ k, a ≤ k → g k = g' k) : seg g a N = seg g' a N' := by
  have le : ∀ {g g' : Nat → Int} {N N' : Nat}, Top g N → Top g' N' → (∀ k, a ≤ k → g k = g' k) → a < N → N ≤ N' := fun {g g' N N'} t t' h ha => by
    rcases Nat.lt_or_ge N' N with q | q
    · have h1 := (t (N - 1)).1 (by omega)
      have h2 := (t' (N - 1)).2 (by omega)
      have h3 := h (N - 1) (by omega)
      omega
    · exact q
  by_cases h1 : a < N
  · have e1 := le t t' h h1
    have e2 := le t' t (fun k hk => (h k hk).symm) (by omega)
    have e : N = N' := by omega
    subst e
    unfold seg
    refine List.map_congr_left fun k hk => h k (List.mem_range'_1.mp hk).1
  · by_cases h2 : a < N'
    · have := le t' t (fun k hk => (h k hk).symm) h2
      omega
    · rw [seg_nil (by omega), seg_nil (by omega)]
theorem seg_snoc {g : Nat → Int} {k : Nat} {e : List Int} : (seg g 0 (k + 1)).reverse ++ e = g k :: ((seg g 0 k).reverse ++ e) := by
  unfold seg
  rw [Nat.sub_zero, Nat.sub_zero, List.range'_concat, List.map_append, List.map_singleton, List.reverse_append, Nat.zero_add, Nat.one_mul]; rfl
/-! ways of tape machines: what is met on the way is not at home -/
def Cfg.Off (c : Cfg) : Prop := c.l ≠ []
inductive TPth (m : Int) (rs : List Rw) : Nat → Cfg → Cfg → Prop
  | nil (c : Cfg) : TPth m rs 0 c c
  | cons {n : Nat} {c c2 : Cfg} {w v t : Int} (e : rowAt m rs c = some (w, v, t)) (o : (stepZ w v t c).Off) (p : TPth m rs n (stepZ w v t c) c2) : TPth m rs (n + 1) c c2
theorem TPth.join {m : Int} {rs : List Rw} {a b : Nat} {c c1 c2 : Cfg} (p : TPth m rs a c c1) (q : TPth m rs b c1 c2) : TPth m rs (a + b) c c2 := by
  induction p with
  | nil => rw [Nat.zero_add]; exact q
  | cons e o _ ih => rw [Nat.add_right_comm]; exact .cons e o (ih q)
theorem TPth.one {m : Int} {rs : List Rw} {c c1 : Cfg} {w v t : Int} (e : rowAt m rs c = some (w, v, t)) (h : stepZ w v t c = c1) (o : c1.Off) : TPth m rs 1 c c1 := by
  subst h; exact .cons e o (.nil _)
theorem TPth.cast {m : Int} {rs : List Rw} {a b : Nat} {c c1 : Cfg} (p : TPth m rs a c c1) (e : a = b) : TPth m rs b c c1 := e ▸ p
theorem TPth.run {m : Int} {rs : List Rw} {n : Nat} {c c1 c2 : Cfg} {w v t : Int} (p : TPth m rs n c c1) (l : rowAt m rs c1 = some (w, v, t)) (l2 : stepZ w v t c1 = c2) : runZ m rs (n + 1) c = (c2, n + 1) ∧ (∀ i, i < n + 1 → stepO m rs (runZ m rs i c).1 = some (runZ m rs (i + 1) c).1) ∧ (∀ i, 0 < i → i < n + 1 → (runZ m rs i c).1.Off) := by
  subst l2
  induction p with
  | nil c =>
    have e : runZ m rs (0 + 1) c = (stepZ w v t c, 1) := run_go l
    refine ⟨e, fun i hi => ?_, fun i h0 h1 => by omega⟩
    have : i = 0 := by omega
    subst this
    rw [e]
    show stepO m rs c = _
    unfold stepO; rw [l]
  | @cons n c c2 w' v' t' e o p ih =>
    obtain ⟨i1, i2, i3⟩ := ih l
    refine ⟨by rw [run_go e, i1], fun i hi => ?_, fun i h0 h1 => ?_⟩
    · cases i with
      | zero => rw [run_go e]; show stepO m rs c = some (stepZ w' v' t' c); unfold stepO; rw [e]
      | succ i => rw [run_go e, run_go e]; exact i2 i (by omega)
    · obtain ⟨i, rfl⟩ : ∃ j, i = j + 1 := ⟨i - 1, by omega⟩
      rw [run_go e]
      cases i with
      | zero => exact o
      | succ i => exact i3 (i + 1) (by omega) (by omega)
/-- to the right over the marks that hold the bit, each is written as it is -/
theorem go_right {rs : List CRw} {o n q p : Nat} {g : Nat → Int} {N : Nat} {b st : Int} (hst : st = 4 * (q : Int) + p) (hq : q < n) (hp : p < 4) (tp : Top g N) (hg : ∀ k, 0 ≤ g k ∧ g k < o)
    (hr : ∀ m : Int, 0 ≤ m → m < o → hasB m b → upR (rs.getD q none) q o p m = some (m, 1, st)) : ∀ (j k : Nat), (∀ i, k ≤ i → i < k + j → hasB (g i) b) → TPth ((2 * o : Nat) : Int) (upRows rs o n) j ⟨st, (seg g 0 k).reverse ++ [(o : Int)], g k, seg g (k + 1) N⟩ ⟨st, (seg g 0 (k + j)).reverse ++ [(o : Int)], g (k + j), seg g (k + j + 1) N⟩
  | 0, k, _ => .nil _
  | j + 1, k, h => by
    have ih := go_right hst hq hp tp hg hr j (k + 1) fun i h1 h2 => h i (by omega) (by omega)
    rw [show k + (j + 1) = k + 1 + j by omega]
    have gk := hg k
    obtain ⟨s1, s2, _⟩ := seg_pop tp (k + 1)
    have e : stepZ (g k) 1 st ⟨st, (seg g 0 k).reverse ++ [(o : Int)], g k, seg g (k + 1) N⟩ = ⟨st, (seg g 0 (k + 1)).reverse ++ [(o : Int)], g (k + 1), seg g (k + 1 + 1) N⟩ := by
      unfold stepZ
      rw [if_pos rfl]
      dsimp only
      rw [s1, s2, seg_snoc]
      unfold push
      rw [if_neg (by simp)]
    refine .cons (w := g k) (v := 1) (t := st) ?_ ?_ (by rw [e]; exact ih)
    · rw [upRow hst hq hp gk.1 (by omega), hr _ gk.1 gk.2 (h k (Nat.le_refl _) (by omega))]
    · rw [e]; show _ ++ _ ≠ []; simp
/-- back home -/
theorem go_left {rs : List CRw} {o n q : Nat} {g : Nat → Int} {N : Nat} (hq : q < n) (tp : Top g N) (hg : ∀ k, 0 ≤ g k ∧ g k < o) (ho : 0 < o) : ∀ (k : Nat), TPth ((2 * o : Nat) : Int) (upRows rs o n) k ⟨4 * (q : Int), (seg g 0 k).reverse ++ [(o : Int)], g k, seg g (k + 1) N⟩ ⟨4 * (q : Int), [(o : Int)], g 0, seg g 1 N⟩
  | 0 => .nil _
  | k + 1 => by
    have ih := go_left (rs := rs) hq tp hg ho k
    have gk := hg (k + 1)
    obtain ⟨_, _, s3⟩ := seg_pop tp (k + 1)
    have e : stepZ (g (k + 1)) (-1) (4 * (q : Int)) ⟨4 * (q : Int), (seg g 0 (k + 1)).reverse ++ [(o : Int)], g (k + 1), seg g (k + 1 + 1) N⟩ = ⟨4 * (q : Int), (seg g 0 k).reverse ++ [(o : Int)], g k, seg g (k + 1) N⟩ := by
      unfold stepZ
      rw [if_neg (by decide)]
      dsimp only
      rw [seg_snoc, s3]; rfl
    refine .cons (w := g (k + 1)) (v := -1) (t := 4 * (q : Int)) ?_ ?_ (by rw [e]; exact ih)
    · rw [upRow (q := q) (p := 0) (by omega) hq (by decide) gk.1 (by omega)]
      show (if g (k + 1) = (o : Int) then _ else _) = _
      rw [if_neg (by omega)]
    · rw [e]; show _ ++ _ ≠ []; simp
/-- the turn, and back home: from the place v the last row is written, to the left of v the marks are those of g' -/
theorem turn_back {rs : List CRw} {o n t : Nat} {g g' : Nat → Int} {N' v : Nat} {S w md : Int} {R : List Int} (ht : t < n) (tp : Top g' N') (hg : ∀ k, 0 ≤ g' k ∧ g' k < o) (ho : 0 < o)
    (hR : push w R = seg g' v N') (hb : ∀ k, k < v → g k = g' k) (hrow : rowAt ((2 * o : Nat) : Int) (upRows rs o n) ⟨S, (seg g 0 v).reverse ++ [(o : Int)], md, R⟩ = some (w, -1, 4 * (t : Int))) :
    ∃ (cm : Cfg) (w1 v1 t1 : Int), TPth ((2 * o : Nat) : Int) (upRows rs o n) v ⟨S, (seg g 0 v).reverse ++ [(o : Int)], md, R⟩ cm ∧ rowAt ((2 * o : Nat) : Int) (upRows rs o n) cm = some (w1, v1, t1) ∧ stepZ w1 v1 t1 cm = ⟨4 * (t : Int), [], o, seg g' 0 N'⟩ := by
  cases v with
  | zero =>
    refine ⟨_, w, -1, 4 * (t : Int), .nil _, hrow, ?_⟩
    unfold stepZ
    rw [if_neg (by decide), seg_nil (Nat.le_refl 0)]
    dsimp only
    rw [hR]; rfl
  | succ v =>
    have es : seg g 0 v = seg g' 0 v := by
      unfold seg
      exact List.map_congr_left fun k hk => hb k (by have := (List.mem_range'_1.mp hk).2; omega)
    have e1 : stepZ w (-1) (4 * (t : Int)) ⟨S, (seg g 0 (v + 1)).reverse ++ [(o : Int)], md, R⟩ = ⟨4 * (t : Int), (seg g' 0 v).reverse ++ [(o : Int)], g' v, seg g' (v + 1) N'⟩ := by
      unfold stepZ
      rw [if_neg (by decide)]
      dsimp only
      rw [seg_snoc, hR, es, hb v (by omega)]; rfl
    obtain ⟨_, _, s3⟩ := seg_pop tp 0
    have g0 := hg 0
    refine ⟨⟨4 * (t : Int), [(o : Int)], g' 0, seg g' 1 N'⟩, g' 0, -1, 4 * (t : Int), (TPth.one hrow e1 (by show _ ++ _ ≠ []; simp)).join (go_left ht tp hg ho v) |>.cast (by omega), ?_, ?_⟩
    · rw [upRow (q := t) (p := 0) (by omega) ht (by decide) g0.1 (by omega)]
      show (if g' 0 = (o : Int) then _ else _) = _
      rw [if_neg (by omega)]
    · unfold stepZ
      rw [if_neg (by decide)]
      dsimp only
      rw [s3]; rfl
/-! the marks of counters -/
def Fv : List Int → Nat → Int
  | [], _ => 0
  | x :: xs, p => (if (p : Int) < x then 1 else 0) + 2 * Fv xs p
def mxU : List Int → Nat
  | [] => 0
  | x :: xs => max x.toNat (mxU xs)
theorem Fv_nn : ∀ (cs : List Int) (p : Nat), 0 ≤ Fv cs p
  | [], _ => Int.le_refl _
  | x :: xs, p => by have := Fv_nn xs p; unfold Fv; split <;> omega
theorem Fv_lt : ∀ (cs : List Int) (p : Nat), Fv cs p < ((2 ^ cs.length : Nat) : Int)
  | [], _ => by show (0 : Int) < 1; decide
  | x :: xs, p => by
    have := Fv_lt xs p
    unfold Fv
    rw [List.length_cons, Nat.pow_succ]
    split <;> omega
theorem Fv_top : ∀ (cs : List Int), Top (Fv cs) (mxU cs)
  | [] => fun k => ⟨fun h => absurd h (Nat.not_lt_zero _), fun _ => rfl⟩
  | x :: xs => fun k => by
    have ih := Fv_top xs k
    have nn := Fv_nn xs k
    unfold Fv mxU
    refine ⟨fun h => ?_, fun h => ?_⟩
    · by_cases q : (k : Int) < x
      · rw [if_pos q]; omega
      · rw [if_neg q]
        have := ih.1 (by omega)
        omega
    · rw [if_neg (by omega), ih.2 (by omega)]; rfl
theorem Fv_has : ∀ (cs : List Int) (i p : Nat), i < cs.length → (hasB (Fv cs p) (2 ^ i) ↔ (p : Int) < cs.getD i 0)
  | [], i, p, h => absurd h (Nat.not_lt_zero _)
  | x :: xs, 0, p, _ => by
    unfold hasB Fv
    show ((if (p : Int) < x then (1 : Int) else 0) + 2 * Fv xs p) / 1 % 2 = 1 ↔ (p : Int) < x
    split <;> omega
  | x :: xs, i + 1, p, h => by
    have ih := Fv_has xs i p (by rw [List.length_cons] at h; omega)
    unfold hasB at ih ⊢
    have e : Fv (x :: xs) p / 2 ^ (i + 1) = Fv xs p / 2 ^ i := by
      rw [Int.pow_succ, Int.mul_comm, ← Int.ediv_ediv_of_nonneg (by decide)]
      congr 1
      have ec : Fv (x :: xs) p = (if (p : Int) < x then 1 else 0) + 2 * Fv xs p := rfl
      rw [ec]
      generalize Fv xs p = f
      split <;> omega
    rw [e, List.getD_cons_succ]
    exact ih
theorem Fv_set : ∀ (cs : List Int) (i p : Nat) (y : Int), i < cs.length → Fv (cs.set i y) p = Fv cs p + 2 ^ i * ((if (p : Int) < y then 1 else 0) - (if (p : Int) < cs.getD i 0 then 1 else 0))
  | [], i, p, y, h => absurd h (Nat.not_lt_zero _)
  | x :: xs, 0, p, y, _ => by
    show (if (p : Int) < y then (1 : Int) else 0) + 2 * Fv xs p = (if (p : Int) < x then (1 : Int) else 0) + 2 * Fv xs p + 1 * ((if (p : Int) < y then (1 : Int) else 0) - (if (p : Int) < x then (1 : Int) else 0))
    omega
  | x :: xs, i + 1, p, y, h => by
    have ih := Fv_set xs i p y (by rw [List.length_cons] at h; omega)
    rw [List.set_cons_succ, List.getD_cons_succ]
    show (if (p : Int) < x then (1 : Int) else 0) + 2 * Fv (xs.set i y) p = (if (p : Int) < x then (1 : Int) else 0) + 2 * Fv xs p + 2 ^ (i + 1) * _
    rw [ih, Int.pow_succ, Int.mul_comm (2 ^ i) 2, Int.mul_assoc]
    omega
/-- the counters on the tape -/
def upC (o : Nat) (c : CC) : Cfg := ⟨4 * c.st, [], (o : Int), seg (Fv c.cs) 0 (mxU c.cs)⟩
def paceU (rs : List CRw) (c : CC) : Int := match rs.getD c.st.toNat none with
  | none => 0
  | some (_, i, _, _) => 2 * c.cs.getD i.toNat 0 + 2
theorem chainU {rs : List CRw} {k o : Nat} {c : CC} {r : Bool × Int × Int × Int} (ok : ∀ r ∈ rs, COk (k : Nat) (rs.length : Nat) r) (oc : c.Ok k (rs.length : Nat)) (er : rs.getD c.st.toNat none = some r) (ho : o = 2 ^ k) :
    ∃ (n : Nat) (cm : Cfg) (w v t : Int) (c' : CC), paceU rs c = ((n + 1 : Nat) : Int) ∧ TPth ((2 * o : Nat) : Int) (upRows rs o rs.length) n (upC o c) cm ∧ rowAt ((2 * o : Nat) : Int) (upRows rs o rs.length) cm = some (w, v, t) ∧ stepZ w v t cm = upC o c' ∧ c.step rs = some c' := by
  have z0 := oc.s0
  have z1 := oc.s1
  have hk := COk.getD ok c.st.toNat
  obtain ⟨b, i, t, u⟩ := r
  have es : c.step rs = some (if b = true then (⟨t, c.cs.set i.toNat (c.cs.getD i.toNat 0 + 1)⟩ : CC) else if 0 < c.cs.getD i.toNat 0 then ⟨t, c.cs.set i.toNat (c.cs.getD i.toNat 0 - 1)⟩ else ⟨u, c.cs⟩) := by unfold CC.step; rw [er]; cases b <;> rfl
  have ep : paceU rs c = 2 * c.cs.getD i.toNat 0 + 2 := by unfold paceU; rw [er]
  rw [er] at hk
  obtain ⟨k1, k2, k3⟩ := hk
  obtain ⟨q, hq⟩ := Int.eq_ofNat_of_zero_le z0
  have hql : q < rs.length := by omega
  rw [hq, Int.toNat_natCast] at er
  obtain ⟨ic, hic⟩ := Int.eq_ofNat_of_zero_le k1.1
  have hil : ic < c.cs.length := by rw [oc.len]; omega
  have nv : 0 ≤ c.cs.getD ic 0 := by
    rw [List.getD_eq_getElem?_getD, List.getElem?_eq_getElem hil]
    exact oc.nn _ (List.getElem_mem hil)
  rw [hic, Int.toNat_natCast] at es ep
  obtain ⟨v, hv⟩ := Int.eq_ofNat_of_zero_le nv
  have o0 : 0 < o := by rw [ho]; exact Nat.pow_pos (by decide)
  have hg : ∀ (cs : List Int), cs.length = k → ∀ p, 0 ≤ Fv cs p ∧ Fv cs p < o := fun cs hl p => ⟨Fv_nn cs p, by rw [ho, ← hl]; exact Fv_lt cs p⟩
  have hg0 := hg c.cs oc.len
  have tp := Fv_top c.cs
  have has : ∀ p : Nat, hasB (Fv c.cs p) (2 ^ ic) ↔ p < v := fun p => by rw [Fv_has c.cs ic p hil, hv]; omega
  have g0 := hg0 0
  obtain ⟨s1, s2, _⟩ := seg_pop tp 0
  -- the first step
  have r0 : rowAt ((2 * o : Nat) : Int) (upRows rs o rs.length) (upC o c) = some ((o : Int), 1, 4 * (q : Int) + 1) := by
    unfold upC
    rw [upRow (q := q) (p := 0) (by rw [hq]; omega) hql (by decide) (by omega) (by omega), er]
    show (if (o : Int) = (o : Int) then _ else _) = _
    rw [if_pos rfl]
  have st0 : stepZ (o : Int) 1 (4 * (q : Int) + 1) (upC o c) = ⟨4 * (q : Int) + 1, (seg (Fv c.cs) 0 0).reverse ++ [(o : Int)], Fv c.cs 0, seg (Fv c.cs) 1 (mxU c.cs)⟩ := by
    unfold stepZ upC
    rw [if_pos rfl, seg_nil (Nat.le_refl 0)]
    dsimp only
    rw [s1, s2]
    unfold push
    rw [if_neg (by rintro ⟨_, z⟩; omega)]; rfl
  have p0 : TPth ((2 * o : Nat) : Int) (upRows rs o rs.length) 1 (upC o c) ⟨4 * (q : Int) + 1, (seg (Fv c.cs) 0 0).reverse ++ [(o : Int)], Fv c.cs 0, seg (Fv c.cs) 1 (mxU c.cs)⟩ := .one r0 st0 (by show _ ++ _ ≠ []; simp)
  obtain ⟨tn, ht⟩ := Int.eq_ofNat_of_zero_le k2.1
  cases b
  · have k3 : 0 ≤ u ∧ u < rs.length := by rcases k3 with z | z; exact absurd z (by decide); exact z
    obtain ⟨un, hu⟩ := Int.eq_ofNat_of_zero_le k3.1
    rw [if_neg (by decide)] at es
    have row1 : ∀ (m : Int) (l r : List Int), 0 ≤ m → m < o → rowAt ((2 * o : Nat) : Int) (upRows rs o rs.length) ⟨4 * (q : Int) + 1, l, m, r⟩ = if hasB m (2 ^ ic) then some (m, 1, 4 * (q : Int) + 2) else some (m, -1, 4 * u) := fun m l r h0 h1 => by
      rw [upRow (q := q) (p := 1) (by omega) hql (by decide) h0 (by omega), er, hic]
      show (if (o : Int) ≤ m then _ else _) = _
      rw [if_neg (by omega)]; rfl
    cases v with
    | zero =>
      rw [if_neg (by omega)] at es
      obtain ⟨_, _, s3⟩ := seg_pop tp 0
      obtain ⟨cm, w1, v1, t1, a1, a2, a3⟩ := turn_back (rs := rs) (n := rs.length) (t := un) (g := Fv c.cs) (g' := Fv c.cs) (v := 0) (S := 4 * (q : Int) + 1) (w := Fv c.cs 0) (md := Fv c.cs 0) (R := seg (Fv c.cs) 1 (mxU c.cs)) (by omega) tp hg0 o0 s3 (fun _ _ => rfl) (by rw [row1 _ _ _ g0.1 g0.2, if_neg (by rw [has]; omega), hu])
      refine ⟨1 + 0, cm, w1, v1, t1, ⟨u, c.cs⟩, by rw [ep, hv]; rfl, p0.join a1, a2, ?_, es⟩
      rw [a3, hu]; rfl
    | succ w =>
      rw [if_pos (by omega)] at es
      have hl' : (c.cs.set ic (c.cs.getD ic 0 - 1)).length = k := by rw [List.length_set]; exact oc.len
      have tp' := Fv_top (c.cs.set ic (c.cs.getD ic 0 - 1))
      have gs : ∀ p, Fv (c.cs.set ic (c.cs.getD ic 0 - 1)) p = if p = w then Fv c.cs p - 2 ^ ic else Fv c.cs p := fun p => by
        rw [Fv_set _ _ _ _ hil, hv]
        by_cases e : p = w
        · subst e; rw [if_pos rfl, if_neg (by omega), if_pos (by omega)]; omega
        · rw [if_neg e]
          by_cases h : (p : Int) < ((w + 1 : Nat) : Int)
          · rw [if_pos (by omega), if_pos h]; omega
          · rw [if_neg (by omega), if_neg h]; omega
      generalize c.cs.set ic (c.cs.getD ic 0 - 1) = cs' at es hl' tp' gs
      -- look
      have st1 : stepZ (Fv c.cs 0) 1 (4 * (q : Int) + 2) ⟨4 * (q : Int) + 1, (seg (Fv c.cs) 0 0).reverse ++ [(o : Int)], Fv c.cs 0, seg (Fv c.cs) 1 (mxU c.cs)⟩ = ⟨4 * (q : Int) + 2, (seg (Fv c.cs) 0 1).reverse ++ [(o : Int)], Fv c.cs 1, seg (Fv c.cs) (1 + 1) (mxU c.cs)⟩ := by
        obtain ⟨y1, y2, _⟩ := seg_pop tp 1
        unfold stepZ
        rw [if_pos rfl]
        dsimp only
        rw [y1, y2, seg_snoc (k := 0)]
        unfold push
        rw [if_neg (by simp)]
      have p1 : TPth ((2 * o : Nat) : Int) (upRows rs o rs.length) 1 _ _ := .one (w := Fv c.cs 0) (v := 1) (t := 4 * (q : Int) + 2) (by rw [row1 _ _ _ g0.1 g0.2, if_pos ((has 0).mpr (by omega))]) st1 (by show _ ++ _ ≠ []; simp)
      have row2 : ∀ (m : Int), 0 ≤ m → m < o → upR (rs.getD q none) q o 2 m = if hasB m (2 ^ ic) then some (m, 1, 4 * (q : Int) + 2) else some (m, -1, 4 * (q : Int) + 3) := fun m h0 h1 => by
        rw [er, hic]
        show (if (o : Int) ≤ m then _ else _) = _
        rw [if_neg (by omega)]; rfl
      have p2 := go_right (rs := rs) (n := rs.length) (q := q) (p := 2) (st := 4 * (q : Int) + 2) (b := 2 ^ ic) (by omega) hql (by decide) tp hg0 (fun m h0 h1 h => by rw [row2 m h0 h1, if_pos h]) w 1 (fun i h1 h2 => (has i).mpr (by omega))
      rw [show 1 + w = w + 1 by omega] at p2
      -- the turn to the place of the take
      have gv := hg0 (w + 1)
      have st3 : stepZ (Fv c.cs (w + 1)) (-1) (4 * (q : Int) + 3) ⟨4 * (q : Int) + 2, (seg (Fv c.cs) 0 (w + 1)).reverse ++ [(o : Int)], Fv c.cs (w + 1), seg (Fv c.cs) (w + 1 + 1) (mxU c.cs)⟩ = ⟨4 * (q : Int) + 3, (seg (Fv c.cs) 0 w).reverse ++ [(o : Int)], Fv c.cs w, seg (Fv c.cs) (w + 1) (mxU c.cs)⟩ := by
        obtain ⟨_, _, y3⟩ := seg_pop tp (w + 1)
        unfold stepZ
        rw [if_neg (by decide)]
        dsimp only
        rw [y3, seg_snoc]; rfl
      have p3 : TPth ((2 * o : Nat) : Int) (upRows rs o rs.length) 1 _ _ := .one (w := Fv c.cs (w + 1)) (v := -1) (t := 4 * (q : Int) + 3) (by rw [upRow (q := q) (p := 2) (by omega) hql (by decide) gv.1 (by omega), row2 _ gv.1 gv.2, if_neg (by rw [has]; omega)]) st3 (by show _ ++ _ ≠ []; simp)
      -- the take
      have gw := hg0 w
      obtain ⟨_, _, y3⟩ := seg_pop tp' w
      obtain ⟨cm, w1, v1, t1, a1, a2, a3⟩ := turn_back (rs := rs) (n := rs.length) (t := tn) (g := Fv c.cs) (g' := Fv cs') (v := w) (S := 4 * (q : Int) + 3) (w := Fv c.cs w - 2 ^ ic) (md := Fv c.cs w) (R := seg (Fv c.cs) (w + 1) (mxU c.cs)) (N' := mxU cs') (by omega) tp' (hg cs' hl') o0
        (by rw [← y3, gs w, if_pos rfl, seg_eq tp tp' (fun k hk => by rw [gs k, if_neg (by omega)])]) (fun k hk => by rw [gs k, if_neg (by omega)]) (by
          rw [upRow (q := q) (p := 3) (by omega) hql (by decide) gw.1 (by omega), er, hic]
          show (if (o : Int) ≤ Fv c.cs w then _ else _) = _
          rw [if_neg (by omega)]
          show (if hasB (Fv c.cs w) (2 ^ ic) then _ else _) = _
          rw [if_pos ((has w).mpr (by omega)), ht]; rfl)
      refine ⟨1 + 1 + w + 1 + w, cm, w1, v1, t1, ⟨t, cs'⟩, by rw [ep, hv]; omega, (((p0.join p1).join p2).join p3).join a1, a2, ?_, es⟩
      rw [a3, ht]; rfl
  · rw [if_pos rfl] at es
    have hl' : (c.cs.set ic (c.cs.getD ic 0 + 1)).length = k := by rw [List.length_set]; exact oc.len
    have tp' := Fv_top (c.cs.set ic (c.cs.getD ic 0 + 1))
    have gs : ∀ p, Fv (c.cs.set ic (c.cs.getD ic 0 + 1)) p = if p = v then Fv c.cs p + 2 ^ ic else Fv c.cs p := fun p => by
      rw [Fv_set _ _ _ _ hil, hv]
      by_cases e : p = v
      · subst e; rw [if_pos rfl, if_pos (by omega), if_neg (by omega)]; omega
      · rw [if_neg e]
        by_cases h : (p : Int) < (v : Nat)
        · rw [if_pos (by omega), if_pos h]; omega
        · rw [if_neg (by omega), if_neg h]; omega
    generalize c.cs.set ic (c.cs.getD ic 0 + 1) = cs' at es hl' tp' gs
    have row1 : ∀ (m : Int), 0 ≤ m → m < o → upR (rs.getD q none) q o 1 m = if hasB m (2 ^ ic) then some (m, 1, 4 * (q : Int) + 1) else some (m + 2 ^ ic, -1, 4 * t) := fun m h0 h1 => by
      rw [er, hic]
      show (if (o : Int) ≤ m then _ else _) = _
      rw [if_neg (by omega)]; rfl
    have p2 := go_right (rs := rs) (n := rs.length) (q := q) (p := 1) (st := 4 * (q : Int) + 1) (b := 2 ^ ic) (by omega) hql (by decide) tp hg0 (fun m h0 h1 h => by rw [row1 m h0 h1, if_pos h]) v 0 (fun i h1 h2 => (has i).mpr (by omega))
    rw [show 0 + v = v by omega] at p2
    have gv := hg0 v
    obtain ⟨_, _, y3⟩ := seg_pop tp' v
    obtain ⟨cm, w1, v1, t1, a1, a2, a3⟩ := turn_back (rs := rs) (n := rs.length) (t := tn) (g := Fv c.cs) (g' := Fv cs') (v := v) (S := 4 * (q : Int) + 1) (w := Fv c.cs v + 2 ^ ic) (md := Fv c.cs v) (R := seg (Fv c.cs) (v + 1) (mxU c.cs)) (N' := mxU cs') (by omega) tp' (hg cs' hl') o0
      (by rw [← y3, gs v, if_pos rfl, seg_eq tp tp' (fun k hk => by rw [gs k, if_neg (by omega)])]) (fun k hk => by rw [gs k, if_neg (by omega)]) (by rw [upRow (q := q) (p := 1) (by omega) hql (by decide) gv.1 (by omega), row1 _ gv.1 gv.2, if_neg (by rw [has]; omega), ht])
    refine ⟨1 + v + v, cm, w1, v1, t1, ⟨t, cs'⟩, by rw [ep, hv]; omega, (p0.join p2).join a1, a2, ?_, es⟩
    rw [a3, ht]; rfl
theorem band_has : ∀ m < 8, ∀ ic < 3, Builtin.bitAnd ((m : Nat) : Int) (1 * 2 ^ ic) = if hasB ((m : Nat) : Int) (2 ^ ic) then 2 ^ ic else 0 := by decide
theorem upR0 {r : CRw} {p o m : Int} : upR r p o 0 m = if m = o then ((match r with | none => none | some _ => some (o, 1, 4 * p + 1)) : Rw) else some (m, (-1 : Int), 4 * p) := rfl
theorem home_ok (T : Tx K mg) {h : DH} {Q : QD} {Qx : QX} {r : CRw} {p o : Nat} (ho : 1 ≤ o ∧ o ≤ 8) (hp : p ≤ 40000)
    (q : ∀ lp h', h lp = none → Sub h h' → h' lp = some (.lst (((List.range (2 * o)).map fun m : Nat => upR r (p : Int) (o : Int) 0 (m : Int)).map rowD)) → Q (.ref lp) h') : W_rows_at_home T [crD r, .int (4 * (p : Int)), .int (o : Nat)] h Q Qx := by
  walk_at "wf"
  rename Addr => p1
  rename DH => hA
  rename hA p1 = _ => e1
  rename h p1 = none => f1
  rename Sub h hA => s1
  have es : ∀ d : D, d = rowD (upR r p o 0 (o : Int)) → ((List.range (2 * (o : Int)).toNat).map fun j : Nat => D.tup [.int (j : Int), .int (-1), .int (4 * (p : Int))]).set o d = ((List.range (2 * o)).map fun m : Nat => upR r (p : Int) (o : Int) 0 (m : Int)).map rowD := by
    intro d hd
    rw [show (2 * (o : Int)).toNat = 2 * o by omega]
    refine List.ext_getElem (by simp) fun k h1 h2 => ?_
    rw [List.getElem_map, List.getElem_map, List.getElem_range, List.getElem_set]
    split
    · rename_i z; subst z; exact hd
    · rename_i z
      rw [List.getElem_map, List.getElem_range, upR0, if_neg (by omega)]; rfl
  cases r with
  | none =>
    rw [show crD none = D.non from rfl]
    walk_at "w"
    refine rt_go (by assumption) (q p1 _ f1 (by walk_at "ws") ?_)
    rw [dup_same, es _ (by rw [upR0, if_pos rfl]; rfl)]
  | some r =>
    have hr : ∃ xs, crD (some r) = D.tup xs := by
      obtain ⟨b, i, t, u⟩ := r
      cases b
      · exact ⟨_, rfl⟩
      · exact ⟨_, rfl⟩
    obtain ⟨xs, hr⟩ := hr
    rw [hr]
    walk_at "w"
    refine rt_go (by assumption) (q p1 _ f1 (by walk_at "ws") ?_)
    rw [dup_same, es _ (by rw [upR0, if_pos rfl]; rfl)]
theorem pw_cases {i : Nat} (hi : i < 3) : (2 : Int) ^ i = 1 ∨ (2 : Int) ^ i = 2 ∨ (2 : Int) ^ i = 4 := by
  rcases (by omega : i = 0 ∨ i = 1 ∨ i = 2) with rfl | rfl | rfl <;> simp
theorem band_yes {m i : Nat} (hm : m < 8) (hi : i < 3) (hb : hasB (m : Int) (2 ^ i)) : (Builtin.bitAnd (m : Int) (1 * 2 ^ i) != 0) = true := by
  rw [band_has m hm i hi, if_pos hb]
  rcases pw_cases hi with q | q | q <;> rw [q] <;> rfl
theorem band_no {m i : Nat} (hm : m < 8) (hi : i < 3) (hb : ¬ hasB (m : Int) (2 ^ i)) : ¬ ((Builtin.bitAnd (m : Int) (1 * 2 ^ i) != 0) = true) := by
  rw [band_has m hm i hi, if_neg hb]; decide
theorem inc_ok (T : Tx K mg) {h : DH} {Q : QD} {Qx : QX} {i : Nat} {t u : Int} {p o : Nat} (ho : 1 ≤ o ∧ o ≤ 8) (hp : p ≤ 40000) (hi : i < 3) (ht : 0 ≤ t ∧ t ≤ 40000)
    (q : ∀ lp h', h lp = none → Sub h h' → h' lp = some (.lst (((List.range o).map fun m : Nat => upR (some (true, (i : Int), t, u)) (p : Int) (o : Int) 1 (m : Int)).map rowD ++ List.replicate (5 * o) D.non)) → Q (.ref lp) h') : W_rows_of_inc T [crD (some (true, (i : Int), t, u)), .int (4 * (p : Int)), .int (o : Nat)] h Q Qx := by
  rw [show crD (some (true, (i : Int), t, u)) = D.tup [.str "inc", .int i, .int t] from rfl]
  have p2 := pw_cases hi
  walk_at "wf"
  refine lc_up (f := fun m : Nat => rowD (upR (some (true, (i : Int), t, u)) (p : Int) (o : Int) 1 (m : Int))) (fun _ _ => trivial) (by walk_at "sz") ?_ ?_
  · intro m h' R hm sb hR
    have er : upR (some (true, (i : Int), t, u)) (p : Int) (o : Int) 1 (m : Int) = if hasB (m : Int) (2 ^ i) then some ((m : Int), 1, 4 * (p : Int) + 1) else some ((m : Int) + 1 * 2 ^ i, -1, 4 * t) := by
      show (if (o : Int) ≤ (m : Int) then _ else _) = _
      rw [if_neg (by omega), Int.one_mul]; rfl
    by_cases hb : hasB (m : Int) (2 ^ i)
    · rw [if_pos hb] at er
      rw [er] at hR
      walk_at "w"
      rw [if_pos (band_yes (by omega) hi hb)]
      walk_at "w"
      exact hR _ (by walk_at "ws")
    · rw [if_neg hb] at er
      rw [er] at hR
      walk_at "w"
      rw [if_neg (band_no (by omega) hi hb)]
      walk_at "w"
      exact hR _ (by walk_at "ws")
  · intro p2 h2 f2 s2 e2
    walk_at "w"
    rename Addr => p9
    rename DH => h9
    rename h9 p9 = _ => e9
    refine rt_go (by assumption) (q p9 h9 (by walk_at "wn") (by walk_at "ws") ?_)
    rw [e9, List.map_map, List.flatten_replicate_singleton, show (5 * (o : Int)).toNat = 5 * o by omega]; rfl
theorem dec_ok (T : Tx K mg) {h : DH} {Q : QD} {Qx : QX} {i : Nat} {t u : Int} {p o : Nat} (ho : 1 ≤ o ∧ o ≤ 8) (hp : p ≤ 40000) (hi : i < 3) (ht : 0 ≤ t ∧ t ≤ 40000) (hu : 0 ≤ u ∧ u ≤ 40000)
    (q : ∀ lp h', h lp = none → Sub h h' → h' lp = some (.lst (((List.range o).map fun m : Nat => rowD (upR (some (false, (i : Int), t, u)) (p : Int) (o : Int) 1 (m : Int))) ++ List.replicate o D.non ++ ((List.range o).map fun m : Nat => rowD (upR (some (false, (i : Int), t, u)) (p : Int) (o : Int) 2 (m : Int))) ++ List.replicate o D.non ++ ((List.range o).map fun m : Nat => rowD (upR (some (false, (i : Int), t, u)) (p : Int) (o : Int) 3 (m : Int))) ++ List.replicate o D.non)) → Q (.ref lp) h') : W_rows_of_dec T [crD (some (false, (i : Int), t, u)), .int (4 * (p : Int)), .int (o : Nat)] h Q Qx := by
  rw [show crD (some (false, (i : Int), t, u)) = D.tup [.str "dec", .int i, .int t, .int u] from rfl]
  have p2 := pw_cases hi
  walk_at "wf"
  refine lc_up (f := fun m : Nat => rowD (upR (some (false, (i : Int), t, u)) (p : Int) (o : Int) 1 (m : Int))) (fun _ _ => trivial) (by walk_at "sz") ?_ ?_
  · intro m h' R hm sb hR
    have er : upR (some (false, (i : Int), t, u)) (p : Int) (o : Int) 1 (m : Int) = if hasB (m : Int) (2 ^ i) then some ((m : Int), 1, 4 * (p : Int) + 2) else some ((m : Int), -1, 4 * u) := by
      show (if (o : Int) ≤ (m : Int) then _ else _) = _
      rw [if_neg (by omega)]; rfl
    by_cases hb : hasB (m : Int) (2 ^ i)
    · rw [if_pos hb] at er
      rw [er] at hR
      walk_at "w"
      rw [if_pos (band_yes (by omega) hi hb)]
      walk_at "w"
      exact hR _ (by walk_at "ws")
    · rw [if_neg hb] at er
      rw [er] at hR
      walk_at "w"
      rw [if_neg (band_no (by omega) hi hb)]
      walk_at "w"
      exact hR _ (by walk_at "ws")
  · intro p2 h2 f2 s2 e2
    walk_at "w"
    refine lc_up (f := fun m : Nat => rowD (upR (some (false, (i : Int), t, u)) (p : Int) (o : Int) 2 (m : Int))) (fun _ _ => trivial) (by walk_at "sz") ?_ ?_
    · intro m h' R hm sb hR
      have er : upR (some (false, (i : Int), t, u)) (p : Int) (o : Int) 2 (m : Int) = if hasB (m : Int) (2 ^ i) then some ((m : Int), 1, 4 * (p : Int) + 2) else some ((m : Int), -1, 4 * (p : Int) + 3) := by
        show (if (o : Int) ≤ (m : Int) then _ else _) = _
        rw [if_neg (by omega)]; rfl
      by_cases hb : hasB (m : Int) (2 ^ i)
      · rw [if_pos hb] at er
        rw [er] at hR
        walk_at "w"
        rw [if_pos (band_yes (by omega) hi hb)]
        walk_at "w"
        exact hR _ (by walk_at "ws")
      · rw [if_neg hb] at er
        rw [er] at hR
        walk_at "w"
        rw [if_neg (band_no (by omega) hi hb)]
        walk_at "w"
        exact hR _ (by walk_at "ws")
    · intro p3 h3 f3 s3 e3
      walk_at "w"
      refine lc_up (f := fun m : Nat => rowD (upR (some (false, (i : Int), t, u)) (p : Int) (o : Int) 3 (m : Int))) (fun _ _ => trivial) (by walk_at "sz") ?_ ?_
      · intro m h' R hm sb hR
        have er : upR (some (false, (i : Int), t, u)) (p : Int) (o : Int) 3 (m : Int) = if hasB (m : Int) (2 ^ i) then some ((m : Int) - 1 * 2 ^ i, -1, 4 * t) else none := by
          show (if (o : Int) ≤ (m : Int) then _ else _) = _
          rw [if_neg (by omega), Int.one_mul]; rfl
        by_cases hb : hasB (m : Int) (2 ^ i)
        · rw [if_pos hb] at er
          rw [er] at hR
          walk_at "w"
          rw [if_pos (band_yes (by omega) hi hb)]
          walk_at "w"
          exact hR _ (by walk_at "ws")
        · rw [if_neg hb] at er
          rw [er] at hR
          walk_at "w"
          rw [if_neg (band_no (by omega) hi hb)]
          walk_at "w"
          exact hR _ (by walk_at "ws")
      · intro p4 h4 f4 s4 e4
        walk_at "w"
        rename Addr => p9
        rename DH => h9
        rename h9 p9 = _ => e9
        refine rt_go (by assumption) (q p9 h9 (by walk_at "wn") (by walk_at "ws") ?_)
        rw [e9, List.flatten_replicate_singleton]
theorem taperun5_ok (T : Tx K mg) {h : DH} {Q : QD} {Qx : QX} {p : Addr} {m s : Int} {rs : List Rw} {c : Cfg} {n : Nat} (it : IsTape T h p m s rs) (hm : 2 ≤ m) (hm' : m ≤ 16) (hl : rs.length = (m * s).toNat) (ok : ∀ r ∈ rs, RowOk m s r) (oc : CfgOk m s c) (bg : c.big 200) (hn : n ≤ 5000)
    (q : Q (.tup [(runZ m rs n c).1.d, .int ((runZ m rs n c).2 : Nat)]) h) : W_Tape_run T [.ref p, c.d, .int (n : Nat)] h Q Qx := by
  obtain ⟨rp, i1, i2⟩ := it
  unfold Cfg.d
  refine def_i rfl fun E hrt _ _ => ?_
  walk_at "en"
  refine seq_i fun N hN => ?_
  walk_at "ev"
  refine ⟨rfl, hN _ _ ?_⟩
  refine seq_i fun N1 hN1 => ?_
  walk_at "ev"
  intro p1 f1
  refine hN1 _ _ ?_
  refine seq_i fun N2 hN2 => ?_
  walk_at "ev"
  intro p2 f2
  refine hN2 _ _ ?_
  have n21 : p2 ≠ p1 := by intro z; subst z; rw [dup_same] at f2; cases f2
  rw [dup_ne n21] at f2
  have np1 : p ≠ p1 := ne_fresh i1 f1
  have np2 : p ≠ p2 := ne_fresh i1 f2
  have nr1 : rp ≠ p1 := ne_fresh i2 f1
  have nr2 : rp ≠ p2 := ne_fresh i2 f2
  refine seq_i fun N3 hN3 => ?_
  walk_at "ev"
  refine hN3 _ _ ?_
  refine seq_i fun N4 hN4 => ?_
  refine while_i (fun k env hh => ∃ (c' : Cfg) (tk : Nat) (o10 o11 o12 o13 o14 : Option D), tk + k = n ∧ env = [some (.ref p), some c.d, some (.int n), some (.int c'.st), some (.tup (c.l.map D.int)), some (.int c'.md), some (.tup (c.r.map D.int)), some (.ref p1), some (.ref p2), some (.int tk), o10, o11, o12, o13, o14] ∧
      hh = dup (dup h p1 (.lst (c'.l.map D.int).reverse)) p2 (.lst (c'.r.map D.int).reverse) ∧ CfgOk m s c' ∧ c'.big (200 + tk) ∧ (runZ m rs n c).1 = (runZ m rs k c').1 ∧ (runZ m rs n c).2 = (runZ m rs k c').2 + tk) n ?_ ⟨c, 0, none, none, none, none, none, Nat.zero_add _, rfl, rfl, oc, bg, rfl, rfl⟩
  rintro k env hh N5 ⟨c', tk, o10, o11, o12, o13, o14, hk, rfl, rfl, oc', bg', e1, e2⟩ hN5
  have fp : dup (dup h p1 (.lst (c'.l.map D.int).reverse)) p2 (.lst (c'.r.map D.int).reverse) p = some (.ins T.C_Tape (tapeF m s rp)) := by rw [dup_ne np2, dup_ne np1]; exact i1
  have fr : dup (dup h p1 (.lst (c'.l.map D.int).reverse)) p2 (.lst (c'.r.map D.int).reverse) rp = some (.lst (rs.map rowD)) := by rw [dup_ne nr2, dup_ne nr1]; exact i2
  have g1 : dup (dup h p1 (.lst (c'.l.map D.int).reverse)) p2 (.lst (c'.r.map D.int).reverse) p1 = some (.lst (c'.l.map D.int).reverse) := by rw [dup_ne (Ne.symm n21), dup_same]
  have g2 : dup (dup h p1 (.lst (c'.l.map D.int).reverse)) p2 (.lst (c'.r.map D.int).reverse) p2 = some (.lst (c'.r.map D.int).reverse) := dup_same
  have done : ∀ o10 : Option D, (runZ m rs k c') = (c', 0) → N4 [some (.ref p), some c.d, some (.int n), some (.int c'.st), some (.tup (c.l.map D.int)), some (.int c'.md), some (.tup (c.r.map D.int)), some (.ref p1), some (.ref p2), some (.int tk), o10, o11, o12, o13, o14] (dup (dup h p1 (.lst (c'.l.map D.int).reverse)) p2 (.lst (c'.r.map D.int).reverse)) := by
    intro o10 e
    rw [e] at e1 e2
    rw [e1, e2] at q
    refine hN4 _ _ ?_
    walk_at "ev"
    simp only [g1]
    walk_at "ev"
    intro p3 f3
    have x1 : p3 ≠ p2 := by intro z; subst z; rw [g2] at f3; cases f3
    have x2 : p3 ≠ p1 := by intro z; subst z; rw [g1] at f3; cases f3
    simp only [dup_same, dup_ne (Ne.symm x1)]
    walk_at "ev"
    intro p4 f4
    have sub : DL.Sub h (dup (dup (dup (dup h p1 (DO.lst (List.map D.int c'.l).reverse)) p2 (DO.lst (List.map D.int c'.r).reverse)) p3 (DO.lst (List.map D.int c'.l).reverse.reverse)) p4 (DO.lst (List.map D.int c'.r).reverse.reverse)) :=
      (Sub.new f1).trans ((Sub.new (by rw [dup_ne n21]; exact f2)).trans ((Sub.new f3).trans (Sub.new f4)))
    refine hrt _ _ _ sub ?_
    rw [List.reverse_reverse, List.reverse_reverse]
    rw [show ((c', 0) : Cfg × Nat).2 + tk = tk from Nat.zero_add tk] at q
    exact q
  walk_at "ev"
  cases k with
  | zero =>
    rw [if_neg (by omega)]
    exact done _ rfl
  | succ k =>
    rw [if_pos (by omega)]
    have er := row_get hm hl oc'
    have okr := row_ok (c := c') ok
    refine seq_i fun N6 hN6 => ?_
    walk_at "ev"
    simp only [fp, tape_rows, tape_marks]
    walk_at "ev"
    simp only [fr, er]
    walk_at "ev"
    refine ⟨⟨⟨cmulR (by omega) (by omega), hN6 _ _ ?_⟩, tape_cls fp⟩, tape_cls fp⟩
    refine seq_i fun N7 hN7 => ?_
    cases e : rowAt m rs c' with
    | none =>
      unfold rowD
      walk_at "ev"
      exact done _ (run_stop e _)
    | some r =>
      obtain ⟨w, v, t⟩ := r
      rw [e] at okr
      have r3 := okr.2.2.1
      rw [run_go e] at e1 e2
      have next := step_cfg hm oc' okr
      have nbig := step_big (w := w) (v := v) (t := t) bg'
      unfold rowD
      walk_at "ev"
      refine hN7 _ _ ?_
      refine seq_i fun N8 hN8 => ?_
      walk_at "ev"
      refine ⟨rfl, hN8 _ _ ?_⟩
      refine seq_i fun N9 hN9 => ?_
      have b1 := bg'.1
      have b2 := bg'.2
      rcases r3 with rfl | rfl
      · rw [stepZ, if_neg (by decide)] at e1 e2 next nbig
        walk_at "ev"
        (try rw [if_neg (by decide)])
        walk_at "ev"
        refine ⟨rfl, hN9 _ _ ?_⟩
        refine tapetail_ok g2 g1 n21 (by omega) (hN5 k _ _ (by omega) ⟨_, tk + 1, _, _, _, _, _, by omega, rfl, ?_, next, nbig, e1, ?_⟩)
        · rw [heap_l n21]
        · rw [e2]; show _ + 1 + tk = _ + (tk + 1); omega
      · rw [stepZ, if_pos rfl] at e1 e2 next nbig
        walk_at "ev"
        refine ⟨rfl, hN9 _ _ ?_⟩
        refine tapetail_ok g1 g2 (Ne.symm n21) (by omega) (hN5 k _ _ (by omega) ⟨_, tk + 1, _, _, _, _, _, by omega, rfl, ?_, next, nbig, e1, ?_⟩)
        · rw [heap_r n21]
        · rw [e2]; show _ + 1 + tk = _ + (tk + 1); omega
local macro_rules | `(tactic| walk_at "wix") => `(tactic| ((refine IsTape.sub (h := ?s1) ?g1 ?g2); (case g1 => with_reducible assumption); (case g2 => walk_at "ws")))
theorem up_half {r : CRw} {q o p : Nat} (hp : 1 ≤ p ∧ p < 4) : ((List.range (2 * o)).map fun m : Nat => upR r (q : Int) (o : Int) p (m : Int)).map rowD = ((List.range o).map fun m : Nat => rowD (upR r (q : Int) (o : Int) p (m : Int))) ++ List.replicate o D.non := by
  rw [List.map_map, show 2 * o = o + o by omega, List.range_add, List.map_append, List.map_map]
  congr 1
  refine List.ext_getElem (by simp) fun k h1 h2 => ?_
  rw [List.getElem_map, List.getElem_range, List.getElem_replicate]
  have e : upR r (q : Int) (o : Int) p ((o + k : Nat) : Int) = none := by
    rcases (by omega : p = 1 ∨ p = 2 ∨ p = 3) with rfl | rfl | rfl
    · show (if (o : Int) ≤ ((o + k : Nat) : Int) then (none : Rw) else _) = none
      rw [if_pos (by omega)]
    · show (if (o : Int) ≤ ((o + k : Nat) : Int) then (none : Rw) else _) = none
      rw [if_pos (by omega)]
    · show (if (o : Int) ≤ ((o + k : Nat) : Int) then (none : Rw) else _) = none
      rw [if_pos (by omega)]
  show rowD (upR r (q : Int) (o : Int) p ((o + k : Nat) : Int)) = D.non
  rw [e]; rfl
theorem up_non {r : CRw} {q o p : Nat} (h : ∀ m : Nat, upR r (q : Int) (o : Int) p (m : Int) = none) : ((List.range o).map fun m : Nat => rowD (upR r (q : Int) (o : Int) p (m : Int))) = List.replicate o D.non := by
  refine List.ext_getElem (by simp) fun k h1 h2 => ?_
  rw [List.getElem_map, List.getElem_range, List.getElem_replicate, h]; rfl
theorem upB_map {r : CRw} {q o : Nat} : (upB r q o).map rowD = ((List.range (2 * o)).map fun m : Nat => upR r (q : Int) (o : Int) 0 (m : Int)).map rowD ++ (((List.range o).map fun m : Nat => rowD (upR r (q : Int) (o : Int) 1 (m : Int))) ++ List.replicate o D.non ++ ((List.range o).map fun m : Nat => rowD (upR r (q : Int) (o : Int) 2 (m : Int))) ++ List.replicate o D.non ++ ((List.range o).map fun m : Nat => rowD (upR r (q : Int) (o : Int) 3 (m : Int))) ++ List.replicate o D.non) := by
  rw [← up_half (by decide), List.append_assoc _ (List.map _ _) (List.replicate _ _), ← up_half (by decide), List.append_assoc _ (List.map _ _) (List.replicate _ _), ← up_half (by decide), ← List.map_append, ← List.map_append, ← List.map_append]
  unfold upB
  congr 1
  simp [List.range_succ, List.append_assoc]
theorem rep6 {o : Nat} : List.replicate (6 * o) D.non = List.replicate o D.non ++ List.replicate o D.non ++ List.replicate o D.non ++ List.replicate o D.non ++ List.replicate o D.non ++ List.replicate o D.non := by
  simp only [List.replicate_append_replicate]; congr 1; omega
theorem rep5 {o : Nat} : List.replicate (5 * o) D.non = List.replicate o D.non ++ List.replicate o D.non ++ List.replicate o D.non ++ List.replicate o D.non ++ List.replicate o D.non := by
  simp only [List.replicate_append_replicate]; congr 1; omega
theorem upB_none {q o : Nat} : (upB none q o).map rowD = ((List.range (2 * o)).map fun m : Nat => upR none (q : Int) (o : Int) 0 (m : Int)).map rowD ++ List.replicate (6 * o) D.non := by
  have z : ∀ p, 1 ≤ p → p < 4 → ∀ m : Nat, upR none (q : Int) (o : Int) p (m : Int) = none := fun p h1 h2 m => by
    rcases (by omega : p = 1 ∨ p = 2 ∨ p = 3) with rfl | rfl | rfl <;> (show (if (o : Int) ≤ (m : Int) then (none : Rw) else none) = none; split <;> rfl)
  rw [upB_map, up_non (z 1 (by decide) (by decide)), up_non (z 2 (by decide) (by decide)), up_non (z 3 (by decide) (by decide)), rep6]
theorem upB_inc {i t u : Int} {q o : Nat} : (upB (some (true, i, t, u)) q o).map rowD = ((List.range (2 * o)).map fun m : Nat => upR (some (true, i, t, u)) (q : Int) (o : Int) 0 (m : Int)).map rowD ++ (((List.range o).map fun m : Nat => upR (some (true, i, t, u)) (q : Int) (o : Int) 1 (m : Int)).map rowD ++ List.replicate (5 * o) D.non) := by
  have z : ∀ p, 2 ≤ p → p < 4 → ∀ m : Nat, upR (some (true, i, t, u)) (q : Int) (o : Int) p (m : Int) = none := fun p h1 h2 m => by
    rcases (by omega : p = 2 ∨ p = 3) with rfl | rfl <;> (show (if (o : Int) ≤ (m : Int) then (none : Rw) else none) = none; split <;> rfl)
  rw [upB_map, up_non (z 2 (by decide) (by decide)), up_non (z 3 (by decide) (by decide)), rep5, List.map_map]
  simp only [List.append_assoc, List.map_map]; rfl
theorem upRows_succ {rs : List CRw} {o i : Nat} : upRows rs o (i + 1) = upRows rs o i ++ upB (rs.getD i none) i o := by
  unfold upRows; rw [List.range_succ, List.flatMap_append, List.flatMap_singleton]
theorem pow3 {k o : Nat} (hk : 1 ≤ k ∧ k ≤ 3) (ho : o = 2 ^ k) : 1 ≤ o ∧ o ≤ 8 := by
  rcases (by omega : k = 1 ∨ k = 2 ∨ k = 3) with rfl | rfl | rfl <;> rw [ho] <;> decide
theorem up_rows (T : Tx K mg) {h : DH} {Q : QD} {Qx : QX} {p up : Addr} {k o : Nat} {rs : List CRw} (im : IsCtr T h up (k : Nat) rs) (hp : h p = some (.ins T.C_UpStair [("upper", .ref up), ("_origin", .int (o : Nat))])) (ok : ∀ r ∈ rs, COk (k : Nat) (rs.length : Nat) r) (hk : 1 ≤ k ∧ k ≤ 3) (ho : o = 2 ^ k) (hl : rs.length ≤ 1000)
    (q : ∀ lp h', h lp = none → Sub h h' → h' lp = some (.lst ((upRows rs o rs.length).map rowD)) → Q (.ref lp) h') : W_UpStairddall_rows T [.ref p] h Q Qx := by
  have o8 := pow3 hk ho
  have im' := im
  obtain ⟨ip, i1, i2⟩ := im'
  walk_at "wf"
  rename_i p1 h1 f1 s1 e1 N1 c1 p2 h2 f2 s2 e2
  refine for_enB h [1, 2, 3, 4] (fun i vs hh => ∃ o2 o3 o4, vs = [some (.ref p1), o2, o3, o4] ∧ hh p1 = some (.lst ((upRows rs o i).map rowD)) ∧ hh p2 = some (.lst (rs.map crD))) [some (.ref p1), none, none, none] (by walk_at "ws") rfl ?_ ⟨none, none, none, rfl, (by show h2 p1 = some (.lst []); walk_at "wh"), e2⟩ ?_ ?_
  · rintro i vs h' s' ⟨o2, o3, o4, rfl, a1, a2⟩; exact a2
  · rintro i x vs hh N hx sb ⟨o2, o3, o4, rfl, a1, a2⟩ hN
    rw [List.getElem?_map] at hx
    obtain ⟨r, hr, rfl⟩ := Option.map_eq_some_iff.mp hx
    have hi : i < rs.length := (List.getElem?_eq_some_iff.mp hr).1
    have eg : rs.getD i none = r := by rw [List.getD_eq_getElem?_getD, hr]; rfl
    have hok := ok r (List.mem_of_getElem? hr)
    have pw2 : p1 ≠ p2 := ne_fresh e1 f2
    have l1 := upRows_len rs o i
    have l3 : 8 * o * i ≤ 64 * i := Nat.mul_le_mul_right _ (by omega)
    have fin : ∀ (o2 o3 o4 : Option D) (hh' : DH) (xs : List D), Sub h hh' → hh' p1 = some (.lst xs) → xs = (upRows rs o i).map rowD ++ (upB r i o).map rowD → hh' p2 = some (.lst (rs.map crD)) → N [some (.ref p), some (.ref p1), o2, o3, o4] hh' := by
      intro o2 o3 o4 hh' xs s' b1 b2 b3
      refine hN [some (.ref p1), o2, o3, o4] _ _ ⟨_, _, _, rfl, ?_, b3⟩ rfl s'
      rw [b1, b2, upRows_succ, eg, List.map_append]
    walk_at "w"
    refine home_ok T o8 (by omega) fun lp h5 f5 s5 e5 => ?_
    have pw3 : p1 ≠ lp := ne_fresh a1 f5
    cases r with
    | none =>
      walk_at "w"
      rw [show crD none = D.non from rfl]
      walk_at "w"
      refine fin _ _ _ _ _ (by walk_at "ws") dup_same ?_ (by walk_at "wh")
      rw [upB_none, List.flatten_replicate_singleton, show (6 * (o : Int)).toNat = 6 * o by omega, List.append_assoc]
    | some r =>
      obtain ⟨b, i', t, u⟩ := r
      obtain ⟨k1, k2, k3⟩ := hok
      obtain ⟨ic, rfl⟩ := Int.eq_ofNat_of_zero_le k1.1
      cases b
      · have k3 : 0 ≤ u ∧ u < rs.length := by rcases k3 with z | z; exact absurd z (by decide); exact z
        rw [show crD (some (false, (ic : Int), t, u)) = D.tup [.str "dec", .int (ic : Int), .int t, .int u] from rfl]
        walk_at "w"
        refine dec_ok T o8 (by omega) (by omega) (by omega) (by omega) fun lq h6 f6 s6 e6 => ?_
        walk_at "w"
        refine fin _ _ _ _ _ (by walk_at "ws") dup_same ?_ (by walk_at "wh")
        rw [upB_map, List.append_assoc]
      · rw [show crD (some (true, (ic : Int), t, u)) = D.tup [.str "inc", .int (ic : Int), .int t] from rfl]
        walk_at "w"
        refine inc_ok T (u := u) o8 (by omega) (by omega) (by omega) fun lq h6 f6 s6 e6 => ?_
        walk_at "w"
        refine fin _ _ _ _ _ (by walk_at "ws") dup_same ?_ (by walk_at "wh")
        rw [upB_inc, List.append_assoc]
  · rintro vs hh sb ⟨o2, o3, o4, rfl, a1, a2⟩
    rw [List.length_map] at a1
    walk_at "w"
    exact rt_go (by assumption) (q _ _ (by assumption) (by walk_at "ws") (by assumption))
theorem tape_make (T : Tx K mg) {h : DH} {Q : QD} {Qx : QX} {lp : Addr} {m s : Int} {rs : List Rw} (hm : 2 ≤ m) (hm' : m ≤ 16) (hs : 1 ≤ s) (hs' : s ≤ 4000) (hr : h lp = some (.lst (rs.map rowD))) (hl : rs.length = (m * s).toNat) (ok : ∀ r ∈ rs, RowOk m s r)
    (q : ∀ p h', Sub h h' → h p = none → IsTape T h' p m s rs → Q (.ref p) h') : Make T.C_Tape (W_Tapedd_initdd T) [.int m, .int s, .ref lp] h Q Qx := by
  intro p f
  refine init_ok T hm hm' hs hs' hr hl ok f fun ip h' fi nip eh => ⟨rfl, ?_⟩
  subst eh
  exact q p _ (fun a o ea => by rw [dup_ne (ne_fresh ea f), dup_ne (ne_fresh ea fi)]; exact ea) f ⟨ip, dup_same, by rw [dup_ne nip, dup_same]⟩
theorem tape_makeN (T : Tx K mg) {h : DH} {Q : QD} {Qx : QX} {lp : Addr} {m s : Int} {rs : List Rw} (hm : 2 ≤ m) (hm' : m ≤ 16) (hs : 1 ≤ s) (hs' : s ≤ 4000) (hr : h lp = some (.lst (rs.map rowD))) (hl : rs.length = (m * s).toNat) (ok : ∀ r ∈ rs, RowOk m s r)
    (q : ∀ p h' hN, Sub h h' → h p = none → IsTape T hN p m s rs → Prv hN h' → Dis h hN → Q (.ref p) h') : Make T.C_Tape (W_Tapedd_initdd T) [.int m, .int s, .ref lp] h Q Qx := by
  intro p f
  refine init_ok T hm hm' hs hs' hr hl ok f fun ip h' fi nip eh => ⟨rfl, ?_⟩
  subst eh
  exact q p _ _ (fun a o ea => by rw [dup_ne (ne_fresh ea f), dup_ne (ne_fresh ea fi)]; exact ea) f ⟨ip, two2_a, two2_c nip⟩ (two2_prv dup_same (by rw [dup_ne nip, dup_same])) (two2_dis f fi)
/-- the stair -/
def IsUp (T : Tx K mg) (h : DH) (p up lo : Addr) (o : Nat) : Prop := h p = some (.ins T.C_UpStair [("upper", .ref up), ("_origin", .int (o : Nat)), ("lower", .ref lo)])
theorem IsUp.sub {T : Tx K mg} {h h' : DH} {p up lo : Addr} {o : Nat} (i : IsUp T h p up lo o) (s : DL.Sub h h') : IsUp T h' p up lo o := s _ _ i
local macro_rules | `(tactic| walk_at "wix") => `(tactic| ((refine IsUp.sub (h := ?s1) ?g1 ?g2); (case g1 => with_reducible assumption); (case g2 => walk_at "ws")))
theorem bit_in : ∀ k, 1 ≤ k ∧ k ≤ 3 → ∀ i < k, (1 : Int) ≤ 2 ^ i ∧ (2 : Int) ^ i < ((2 ^ k : Nat) : Int) := by
  intro k hk i hi
  rcases (by omega : k = 1 ∨ k = 2 ∨ k = 3) with rfl | rfl | rfl <;> rcases (by omega : i = 0 ∨ i = 1 ∨ i = 2) with rfl | rfl | rfl <;> first | omega | decide
theorem hasB_le {m b : Int} (hm : 0 ≤ m) (hb : 0 < b) (h : hasB m b) : b ≤ m := by
  unfold hasB at h
  rcases Int.lt_or_le m b with q | q
  · rw [Int.ediv_eq_zero_of_lt hm q] at h; exact absurd h (by decide)
  · exact q
theorem upR_ok {r : CRw} {k o n q p m : Nat} (hk : 1 ≤ k ∧ k ≤ 3) (ho : o = 2 ^ k) (ok : COk (k : Nat) (n : Nat) r) (hq : q < n) (hp : p < 4) (hm : m < 2 * o) : RowOk ((2 * o : Nat) : Int) ((4 * n : Nat) : Int) (upR r (q : Int) (o : Int) p (m : Int)) := by
  have o8 := pow3 hk ho
  have bi : ∀ i : Int, 0 ≤ i → i < (k : Int) → (1 : Int) ≤ 2 ^ i.toNat ∧ (2 : Int) ^ i.toNat < (o : Int) := fun i h0 h1 => by rw [ho]; exact bit_in k hk i.toNat (by omega)
  rcases (by omega : p = 0 ∨ p = 1 ∨ p = 2 ∨ p = 3) with rfl | rfl | rfl | rfl
  · rw [upR0]
    split
    · cases r with
      | none => trivial
      | some r => exact ⟨by omega, by omega, .inr rfl, by omega, by omega⟩
    · exact ⟨by omega, by omega, .inl rfl, by omega, by omega⟩
  · show RowOk _ _ (if (o : Int) ≤ (m : Int) then (none : Rw) else _)
    split
    · trivial
    · cases r with
      | none => trivial
      | some r =>
        obtain ⟨b, i, t, u⟩ := r
        obtain ⟨k1, k2, k3⟩ := ok
        have := bi i k1.1 k1.2
        cases b
        · have k3 : 0 ≤ u ∧ u < (n : Int) := by rcases k3 with z | z; exact absurd z (by decide); exact z
          show RowOk _ _ (if hasB (m : Int) (2 ^ i.toNat) then _ else _)
          split
          · exact ⟨by omega, by omega, .inr rfl, by omega, by omega⟩
          · exact ⟨by omega, by omega, .inl rfl, by omega, by omega⟩
        · show RowOk _ _ (if hasB (m : Int) (2 ^ i.toNat) then _ else _)
          split
          · exact ⟨by omega, by omega, .inr rfl, by omega, by omega⟩
          · exact ⟨by omega, by omega, .inl rfl, by omega, by omega⟩
  · show RowOk _ _ (if (o : Int) ≤ (m : Int) then (none : Rw) else _)
    split
    · trivial
    · cases r with
      | none => trivial
      | some r =>
        obtain ⟨b, i, t, u⟩ := r
        obtain ⟨k1, k2, k3⟩ := ok
        cases b
        · show RowOk _ _ (if hasB (m : Int) (2 ^ i.toNat) then _ else _)
          split
          · exact ⟨by omega, by omega, .inr rfl, by omega, by omega⟩
          · exact ⟨by omega, by omega, .inl rfl, by omega, by omega⟩
        · trivial
  · show RowOk _ _ (if (o : Int) ≤ (m : Int) then (none : Rw) else _)
    split
    · trivial
    · cases r with
      | none => trivial
      | some r =>
        obtain ⟨b, i, t, u⟩ := r
        obtain ⟨k1, k2, k3⟩ := ok
        have := bi i k1.1 k1.2
        cases b
        · show RowOk _ _ (if hasB (m : Int) (2 ^ i.toNat) then _ else _)
          split
          · rename_i hb
            have := hasB_le (by omega) (by omega) hb
            exact ⟨by omega, by omega, .inl rfl, by omega, by omega⟩
          · trivial
        · trivial
theorem upRows_ok {rs : List CRw} {k o : Nat} (hk : 1 ≤ k ∧ k ≤ 3) (ho : o = 2 ^ k) (ok : ∀ r ∈ rs, COk (k : Nat) (rs.length : Nat) r) : ∀ x ∈ upRows rs o rs.length, RowOk ((2 * o : Nat) : Int) ((4 * rs.length : Nat) : Int) x := by
  intro x hx
  obtain ⟨q, hq, hx⟩ := List.mem_flatMap.mp hx
  obtain ⟨p, hp, hx⟩ := List.mem_flatMap.mp hx
  obtain ⟨m, hm, rfl⟩ := List.mem_map.mp hx
  exact upR_ok hk ho (COk.getD ok q) (List.mem_range.mp hq) (List.mem_range.mp hp) (List.mem_range.mp hm)
theorem upRows_len2 {rs : List CRw} {o : Nat} : (upRows rs o rs.length).length = (((2 * o : Nat) : Int) * ((4 * rs.length : Nat) : Int)).toNat := by
  rw [upRows_len, ← Int.natCast_mul, Int.toNat_natCast, Nat.mul_mul_mul_comm, Nat.mul_assoc 8]
theorem up_make (T : Tx K mg) {h : DH} {Q : QD} {Qx : QX} {up : Addr} {k o : Nat} {rs : List CRw} (im : IsCtr T h up (k : Nat) rs) (ok : ∀ r ∈ rs, COk (k : Nat) (rs.length : Nat) r) (hk : 1 ≤ k ∧ k ≤ 3) (ho : o = 2 ^ k) (h0 : 1 ≤ rs.length) (hl : rs.length ≤ 1000)
    (q : ∀ p lo h', Sub h h' → h p = none → IsUp T h' p up lo o → IsTape T h' lo ((2 * o : Nat) : Int) ((4 * rs.length : Nat) : Int) (upRows rs o rs.length) → Q (.ref p) h') : Make T.C_UpStair (W_UpStairdd_initdd T) [.ref up] h Q Qx := by
  have o8 := pow3 hk ho
  intro p f
  obtain ⟨ip, i1, i2⟩ := id im
  have e1 : (1 : Int) * 2 ^ k = (o : Nat) := by rw [ho]; simp
  walk_at "wf"
  rw [e1]
  walk_at "w"
  refine up_rows T (k := k) (o := o) (rs := rs) (by walk_at "wi") dup_same ok hk ho hl fun lp h1 f1 s1 e2 => ?_
  walk_at "w"
  rw [show (2 : Int) * (o : Int) = ((2 * o : Nat) : Int) by omega, show (4 : Int) * (rs.length : Int) = ((4 * rs.length : Nat) : Int) by omega]
  refine tape_makeN T (m := ((2 * o : Nat) : Int)) (s := ((4 * rs.length : Nat) : Int)) (rs := upRows rs o rs.length) (by omega) (by omega) (by omega) (by omega) e2 upRows_len2 (upRows_ok hk ho ok) fun lo h2 hN s2 f2 it pv di => ?_
  walk_at "w"
  exact q p lo _ (by walk_at "ws") f dup_same (it.sub (by walk_at "ws"))
theorem maxI_mx : ∀ (xs : List Int) (n : Int), 0 ≤ n → maxI n xs = max n (mxU xs : Nat)
  | [], n, h => by show n = max n ((0 : Nat) : Int); omega
  | x :: xs, n, h => by
    have ih := maxI_mx xs (max n x) (by omega)
    show maxI (max n x) xs = max n ((max x.toNat (mxU xs) : Nat) : Int)
    rw [ih]; omega
theorem sum_mul2 {α : Type} (f : α → Int) : ∀ l : List α, (l.map fun k => 2 * f k).sum = 2 * (l.map f).sum
  | [] => rfl
  | x :: xs => by
    rw [List.map_cons, List.map_cons, List.sum_cons, List.sum_cons, sum_mul2 f xs]; omega
theorem sum_Fv : ∀ (cs : List Int) (p : Nat), (((List.range cs.length).filter fun k => decide ((p : Int) < cs.getD k 0)).map fun k => (2 : Int) ^ k).sum = Fv cs p
  | [], _ => rfl
  | x :: xs, p => by
    have ih := sum_Fv xs p
    rw [List.length_cons, List.range_succ_eq_map, List.filter_cons, List.filter_map]
    have e : (((List.range xs.length).filter ((fun k => decide ((p : Int) < (x :: xs).getD k 0)) ∘ Nat.succ)).map Nat.succ).map (fun k => (2 : Int) ^ k) = ((List.range xs.length).filter fun k => decide ((p : Int) < xs.getD k 0)).map fun k => 2 * (2 : Int) ^ k := by
      rw [List.map_map]
      refine List.map_congr_left fun k _ => ?_
      show (2 : Int) ^ (k + 1) = _
      rw [Int.pow_succ, Int.mul_comm]
    have e2 : (((List.range xs.length).filter ((fun k => decide ((p : Int) < (x :: xs).getD k 0)) ∘ Nat.succ)).map Nat.succ).map (fun k => (2 : Int) ^ k) = ((List.range xs.length).filter fun k => decide ((p : Int) < xs.getD k 0)).map fun k => 2 * (2 : Int) ^ k := e
    show (List.map _ (if decide ((p : Int) < x) = true then _ else _)).sum = (if (p : Int) < x then 1 else 0) + 2 * Fv xs p
    by_cases h : (p : Int) < x
    · rw [if_pos (decide_eq_true h), if_pos h, List.map_cons, List.sum_cons, e2, sum_mul2, ih]; rfl
    · rw [if_neg (by simpa using h), if_neg h, e2, sum_mul2, ih]; omega
/-- sums of bits -/
theorem seg_add {g : Nat → Int} {k : Nat} : seg g 0 (k + 1) = seg g 0 k ++ [g k] := by
  unfold seg
  rw [Nat.sub_zero, Nat.sub_zero, List.range'_concat, List.map_append, List.map_singleton, Nat.zero_add, Nat.one_mul]
theorem ubit1 {n : Int} (h : 0 ≤ n) : Builtin.bitAnd n 1 = n % 2 := by
  obtain ⟨m, rfl⟩ := Int.eq_ofNat_of_zero_le h
  unfold Builtin.bitAnd
  have h1 : decide (0 ≤ (m : Int)) = true := by simp
  have h2 : decide ((0 : Int) ≤ 1) = true := by decide
  rw [h1, h2]
  show (((m : Int).toNat &&& (1 : Int).toNat : Nat) : Int) = _
  rw [Int.toNat_natCast, show (1 : Int).toNat = 1 from rfl, Nat.and_one_is_mod]; omega
theorem ones_sum {v : Int} : ∀ (N : Nat), 0 ≤ v → v ≤ N → ((List.range N).map fun p : Nat => if (p : Int) < v then (1 : Int) else 0).sum = v
  | 0, h0, h1 => by show (0 : Int) = v; omega
  | N + 1, h0, h1 => by
    rw [List.range_succ, List.map_append, List.sum_append, List.map_singleton, List.sum_singleton]
    by_cases h : v ≤ N
    · rw [ones_sum N h0 h, if_neg (by omega)]; omega
    · have e : v = ((N + 1 : Nat) : Int) := by omega
      have e2 : ((List.range N).map fun p : Nat => if (p : Int) < v then (1 : Int) else 0) = (List.range N).map fun p : Nat => if (p : Int) < (N : Nat) then (1 : Int) else 0 := by
        refine List.map_congr_left fun p hp => ?_
        have := List.mem_range.mp hp
        rw [if_pos (by omega), if_pos (by omega)]
      rw [e2, ones_sum N (by omega) (by omega), if_pos (by omega)]; omega
theorem le_mx : ∀ (cs : List Int) (i : Nat), cs.getD i 0 ≤ (mxU cs : Nat)
  | [], i => by show (0 : Int) ≤ ((0 : Nat) : Int); omega
  | x :: xs, 0 => by show x ≤ ((max x.toNat (mxU xs) : Nat) : Int); omega
  | x :: xs, i + 1 => by
    have := le_mx xs i
    rw [List.getD_cons_succ]
    show _ ≤ ((max x.toNat (mxU xs) : Nat) : Int); omega
theorem up_down (T : Tx K mg) {h : DH} {Q : QD} {Qx : QX} {p up lo : Addr} {k o : Nat} {s : Int} {c : CC} (iu : IsUp T h p up lo o) (oc : c.Ok k s) (hk : 1 ≤ k ∧ k ≤ 3) (hb : mxU c.cs ≤ 10000) (q : Q (upC o c).d h) : W_UpStair_down T [.ref p, c.d] h Q Qx := by
  have i0 : h p = some (.ins T.C_UpStair [("upper", .ref up), ("_origin", .int (o : Nat)), ("lower", .ref lo)]) := iu
  obtain ⟨st, cs⟩ := c
  have hl : cs.length = k := oc.len
  have nn : ∀ x ∈ cs, 0 ≤ x := oc.nn
  have hb : mxU cs ≤ 10000 := hb
  unfold CC.d
  dsimp only
  cases cs with
  | nil => rw [List.length_nil] at hl; omega
  | cons x xs =>
    have em : maxI x xs = (mxU (x :: xs) : Nat) := by
      have := nn x List.mem_cons_self
      rw [maxI_mx xs x this]; show _ = ((max x.toNat (mxU xs) : Nat) : Int); omega
    have ei : intsOf (D.int x :: List.map D.int xs) = some (x :: xs) := intsOf_map (x :: xs)
    walk_at "wf"
    rename Addr => p1
    rename DH => hA
    rename hA p1 = _ => e1
    rename h p1 = none => f1
    rename Sub h hA => s1
    rw [ei]
    dsimp only
    rw [em]
    generalize hcs : x :: xs = cs at *
    rw [show D.int x :: List.map D.int xs = cs.map D.int by rw [← hcs]; rfl]
    clear hcs em ei
    refine ⟨by omega, ?_⟩
    rw [show (((mxU cs : Nat) : Int) + 1 - 1).toNat = mxU cs by omega]
    refine for_uB h [4, 5, 6, 7] (fun i vs hh => ∃ o5 o6 o7, vs = [some (.ref p1), o5, o6, o7] ∧ hh p1 = some (.lst ((seg (Fv cs) 0 i).map D.int))) [some (.ref p1), none, none, none] s1 rfl ⟨none, none, none, rfl, e1⟩ ?_ ?_
    · rintro i vs hh N hi sb ⟨o5, o6, o7, rfl, a1⟩ hN
      walk_at "w"
      refine lcP_en (fun k => decide ((i : Int) < cs.getD k 0)) (fun k => D.int ((2 : Int) ^ k)) (fun _ _ => trivial) (by walk_at "sz") ?_ ?_ ?_
      · intro k x h' R hx sb' hR
        rw [List.getElem?_map] at hx
        obtain ⟨y, hy, rfl⟩ := Option.map_eq_some_iff.mp hx
        have ey : cs.getD k 0 = y := by rw [List.getD_eq_getElem?_getD, hy]; rfl
        rw [ey] at hR
        walk_at "w"
        rw [show decide (1 + (i : Int) ≤ y) = decide ((i : Int) < y) from decide_eq_decide.mpr (by omega)]
        exact hR _ (by walk_at "ws")
      · intro k x h' R hx hb sb' hR
        have hk2 : k < cs.length := by have := (List.getElem?_eq_some_iff.mp hx).1; rwa [List.length_map] at this
        walk_at "w"
        rw [Int.one_mul]
        exact hR _ (by walk_at "ws")
      · intro p2 h2 f2 s2 e2
        rw [List.length_map] at e2
        have e3 : h2 p2 = some (.lst ((((List.range cs.length).filter fun k => decide ((i : Int) < cs.getD k 0)).map fun k => (2 : Int) ^ k).map D.int)) := by rw [e2, List.map_map]; rfl
        clear e2
        have sl := seg_len (g := Fv cs) (a := 0) (N := i)
        walk_at "w"
        refine hN [_, _, _, _] _ _ ⟨_, _, _, rfl, ?_⟩ rfl (by walk_at "ws")
        rw [dup_same, sum_Fv, seg_add, List.map_append]; rfl
    · rintro vs hh sb ⟨o5, o6, o7, rfl, a1⟩
      walk_at "w"
theorem up_pace (T : Tx K mg) {h : DH} {Q : QD} {Qx : QX} {p up lo : Addr} {k o : Nat} {rs : List CRw} {c : CC} {v : Int} (iu : IsUp T h p up lo o) (im : IsCtr T h up (k : Nat) rs) (ok : ∀ r ∈ rs, COk (k : Nat) (rs.length : Nat) r) (oc : c.Ok k (rs.length : Nat)) (e : paceU rs c = v) (q : Q (.int v) h) : W_UpStair_pace T [.ref p, c.d] h Q Qx := by
  have i0 : h p = some (.ins T.C_UpStair [("upper", .ref up), ("_origin", .int (o : Nat)), ("lower", .ref lo)]) := iu
  obtain ⟨ip, i1, i2⟩ := id im
  have z0 := oc.s0
  have z1 := oc.s1
  have hl := oc.len
  have ho := COk.getD ok c.st.toNat
  unfold paceU at e
  unfold CC.d
  walk_at "wf"
  cases er : rs.getD c.st.toNat none with
  | none =>
    rw [er] at e
    dsimp only at e
    subst e
    rw [show crD none = D.non from rfl]
    walk_at "w"
  | some r =>
    obtain ⟨b, i, t, u⟩ := r
    rw [er] at e ho
    dsimp only at e
    subst e
    obtain ⟨o1, o2, o3⟩ := ho
    have ea := cs_at (cs := c.cs) o1.1 (by omega)
    cases b
    · rw [show crD (some (false, i, t, u)) = D.tup [.str "dec", .int i, .int t, .int u] from rfl]
      walk_at "w"
    · rw [show crD (some (true, i, t, u)) = D.tup [.str "inc", .int i, .int t] from rfl]
      walk_at "w"
theorem pl_cfgU (c : Cfg) : plN 2 c.d = true := by
  refine plT ?_
  rw [List.all_cons, List.all_cons, List.all_cons, List.all_cons, plI, plI, plT (pl_ints _), plT (pl_ints _)]; rfl
theorem up_no (T : Tx K mg) {h : DH} {Q : QD} {Qx : QX} {p up lo : Addr} {o : Nat} {c : Cfg} (iu : IsUp T h p up lo o) (hl : c.Off) (q : Q .non h) : W_UpStair_up T [.ref p, c.d] h Q Qx := by
  have i0 : h p = some (.ins T.C_UpStair [("upper", .ref up), ("_origin", .int (o : Nat)), ("lower", .ref lo)]) := iu
  have hl : c.l ≠ [] := hl
  unfold Cfg.d
  walk_at "wf"
  refine geq_no (n := 1) (by decide) (plT (pl_ints _)) (plT rfl) (by rw [ne_eq, D.tup.injEq, List.map_eq_nil_iff]; exact hl) ?_
  walk_at "w"
theorem side_ok (T : Tx K mg) {h : DH} {Q : QD} {Qx : QX} {p : Addr} {m s : Int} {rs : List Rw} {l : List Int} (it : IsTape T h p m s rs) (so : SideOk m l) (hl : l.length ≤ 1000000) (q : Q (.bl true) h) : W_Tapeddis_side T [.ref p, .tup (l.map D.int)] h Q Qx := by
  obtain ⟨rp, i1, i2⟩ := it
  unfold tapeF at i1
  walk_at "wf"
  refine arenum_ints T hl ?_
  have e : (l.all fun i => decide (0 ≤ i ∧ i ≤ m - 1)) = true := by
    rw [List.all_eq_true]; intro x hx; have := so.1 x hx; exact decide_eq_true (by omega)
  rw [e]
  walk_at "w"
  rcases List.eq_nil_or_concat l with rfl | ⟨l', x, rfl⟩
  · rw [if_pos (by rfl)]
    walk_at "w"
  · have hx : x ≠ 0 := by
      have h1 := so.1 x (by simp)
      have h2 := so.2
      intro z
      subst z
      rw [List.concat_eq_append, tz_append_zero] at h2
      have h3 := tz_le l'
      rw [h2, List.length_append, List.length_singleton] at h3
      omega
    rw [if_neg (by rw [List.concat_eq_append, List.length_append, List.length_singleton]; omega)]
    have ea : atI (List.map D.int (l'.concat x)) (-1) = some (.int x) := by
      rw [List.concat_eq_append, List.map_append, List.map_singleton]
      unfold atI ixN
      rw [if_neg (by decide), if_pos (by rw [List.length_append, List.length_singleton]; omega), List.length_append, List.length_singleton]
      show (List.map D.int l' ++ [D.int x])[(-1 + (((List.map D.int l').length + 1 : Nat) : Int)).toNat]? = _
      rw [show (-1 + (((List.map D.int l').length + 1 : Nat) : Int)).toNat = (List.map D.int l').length by omega, List.getElem?_append_right (Nat.le_refl _), Nat.sub_self]; rfl
    rw [ea]
    walk_at "w"
    rw [decide_eq_false hx]
    walk_at "w"
theorem tape_isconf (T : Tx K mg) {h : DH} {Q : QD} {Qx : QX} {p : Addr} {m s : Int} {rs : List Rw} {c : Cfg} (it : IsTape T h p m s rs) (oc : CfgOk m s c) (bg : c.big 1000000) (q : Q (.bl true) h) : W_Tape_is_configuration T [.ref p, c.d] h Q Qx := by
  obtain ⟨rp, i1, i2⟩ := id it
  unfold tapeF at i1
  obtain ⟨a0, a1, a2, a3, a4, a5⟩ := oc
  unfold Cfg.d
  walk_at "wf"
  refine side_ok T it a4 bg.1 ?_
  walk_at "w"
  refine side_ok T it a5 bg.2 ?_
  walk_at "w"
theorem seg_tz {g : Nat → Int} {N : Nat} (t : Top g N) : tz (seg g 0 N) = seg g 0 N := by
  cases N with
  | zero => rfl
  | succ N => rw [seg_add]; exact tz_append_pos ((t N).1 (by omega)) _
theorem upC_ok {k o n : Nat} {c : CC} (oc : c.Ok k (n : Nat)) (hk : 1 ≤ k ∧ k ≤ 3) (ho : o = 2 ^ k) : CfgOk ((2 * o : Nat) : Int) ((4 * n : Nat) : Int) (upC o c) := by
  have o8 := pow3 hk ho
  have z0 := oc.s0
  have z1 := oc.s1
  refine ⟨?_, ?_, ?_, ?_, ⟨fun x hx => (nomatch hx), rfl⟩, fun x hx => ?_, seg_tz (Fv_top _)⟩
  · show 0 ≤ 4 * c.st; omega
  · show 4 * c.st < _; omega
  · show (0 : Int) ≤ (o : Int); omega
  · show (o : Int) < _; omega
  · obtain ⟨k', _, rfl⟩ := List.mem_map.mp hx
    have h1 := Fv_nn c.cs k'
    have h2 := Fv_lt c.cs k'
    rw [oc.len, ← ho] at h2
    omega
theorem up_yes (T : Tx K mg) {h : DH} {Q : QD} {Qx : QX} {p up lo : Addr} {k o : Nat} {rs : List CRw} {c : CC} (iu : IsUp T h p up lo o) (im : IsCtr T h up (k : Nat) rs) (it : IsTape T h lo ((2 * o : Nat) : Int) ((4 * rs.length : Nat) : Int) (upRows rs o rs.length)) (oc : c.Ok k (rs.length : Nat)) (hk : 1 ≤ k ∧ k ≤ 3) (ho : o = 2 ^ k) (hb : mxU c.cs ≤ 10000) (q : Q c.d h) : W_UpStair_up T [.ref p, (upC o c).d] h Q Qx := by
  have i0 : h p = some (.ins T.C_UpStair [("upper", .ref up), ("_origin", .int (o : Nat)), ("lower", .ref lo)]) := iu
  obtain ⟨ip, i1, i2⟩ := id im
  obtain ⟨jp, j1, j2⟩ := id it
  unfold tapeF at j1
  have ok4 := upC_ok oc hk ho
  have sl := seg_len (g := Fv c.cs) (a := 0) (N := mxU c.cs)
  have bg : (upC o c).big 1000000 := ⟨Nat.zero_le _, by show (seg (Fv c.cs) 0 (mxU c.cs)).length ≤ _; omega⟩
  have hl := oc.len
  have nn := oc.nn
  have tk : ∀ i, i < c.cs.length → c.cs.take (i + 1) = c.cs.take i ++ [c.cs.getD i 0] := fun i hi => by
    rw [List.take_succ, List.getD_eq_getElem?_getD, List.getElem?_eq_getElem hi]; rfl
  have o8 := pow3 hk ho
  have z0 := oc.s0
  rw [show (upC o c).d = D.tup [.int (4 * c.st), .tup ([] : List D), .int (o : Nat), .tup ((seg (Fv c.cs) 0 (mxU c.cs)).map D.int)] from rfl]
  walk_at "wf"
  refine tape_isconf T (c := upC o c) it ok4 bg ?_
  walk_at "w"
  rename Addr => p1
  rename DH => hA
  rename hA p1 = _ => e1
  rename h p1 = none => f1
  rename Sub h hA => s1
  refine for_uB h [6, 7, 9] (fun i vs hh => ∃ o7 o9, vs = [some (.ref p1), o7, o9] ∧ hh p1 = some (.lst ((c.cs.take i).map D.int))) [some (.ref p1), none, none] s1 rfl ⟨none, none, rfl, e1⟩ ?_ ?_
  · rintro i vs hh N hi sb ⟨o7, o9, rfl, a1⟩ hN
    have hic : i < c.cs.length := by omega
    have tl : (c.cs.take i).length ≤ 10 := by rw [List.length_take]; omega
    have nv : 0 ≤ c.cs.getD i 0 := by
      rw [List.getD_eq_getElem?_getD, List.getElem?_eq_getElem hic]
      exact nn _ (List.getElem_mem hic)
    walk_at "w"
    refine lc_go (fun j => D.int (if ((j : Nat) : Int) < c.cs.getD i 0 then 1 else 0)) (fun _ _ => trivial) (by show (List.map D.int _).length < 16777216; rw [List.length_map]; omega) ?_ ?_
    · intro j x h' R hx sb' hR
      rw [List.getElem?_map] at hx
      obtain ⟨y, hy, rfl⟩ := Option.map_eq_some_iff.mp hx
      have ey : y = Fv c.cs j := by
        unfold seg at hy
        rw [List.getElem?_map] at hy
        obtain ⟨z, hz, rfl⟩ := Option.map_eq_some_iff.mp hy
        obtain ⟨hz1, hz2⟩ := List.getElem?_eq_some_iff.mp hz
        rw [← hz2, List.getElem_range', Nat.zero_add, Nat.one_mul]
      subst ey
      have f0 := Fv_nn c.cs j
      have fh := Fv_has c.cs i j hic
      unfold hasB at fh
      have eb : Builtin.bitAnd (Fv c.cs j / 2 ^ i) 1 = if ((j : Nat) : Int) < c.cs.getD i 0 then 1 else 0 := by
        rw [ubit1 (Int.ediv_nonneg f0 (Int.le_of_lt (Int.pow_pos (by decide))))]
        have m0 := Int.emod_nonneg (Fv c.cs j / 2 ^ i) (b := 2) (by decide)
        have m1 := Int.emod_lt_of_pos (Fv c.cs j / 2 ^ i) (b := 2) (by decide)
        split
        · rename_i z; exact fh.mpr z
        · rename_i z
          have : Fv c.cs j / 2 ^ i % 2 ≠ 1 := fun w => z (fh.mp w)
          omega
      rw [← eb] at hR
      walk_at "w"
      exact hR _ (by walk_at "ws")
    · intro p2 h2 f2 s2 e2
      rw [List.length_map, sl] at e2
      have e3 : h2 p2 = some (.lst (((List.range (mxU c.cs - 0)).map fun p : Nat => if ((p : Nat) : Int) < c.cs.getD i 0 then (1 : Int) else 0).map D.int)) := by rw [e2, List.map_map]; rfl
      clear e2
      rw [Nat.sub_zero] at e3
      walk_at "w"
      refine hN [_, _, _] _ _ ⟨_, _, rfl, ?_⟩ rfl (by walk_at "ws")
      rw [dup_same, ones_sum _ nv (le_mx _ _), tk i hic, List.map_append]; rfl
  · rintro vs hh sb ⟨o7, o9, rfl, a1⟩
    rw [← hl, List.take_length] at a1
    walk_at "w"
    rw [show 4 * c.st / 4 = c.st by omega]
    refine up_down T (c := c) (k := k) (o := o) (up := up) (lo := lo) (iu.sub (by walk_at "ws")) oc hk hb ?_
    refine geq_yes (n := 2) (by decide) (pl_cfgU _) rfl ?_
    walk_at "w"
theorem tp_stop_n (T : Tx K mg) {h : DH} {Q : QD} {Qx : QX} {p : Addr} {o n : Nat} {rs : List CRw} {c : Cfg} (it : IsTape T h p ((2 * o : Nat) : Int) ((4 * rs.length : Nat) : Int) (upRows rs o rs.length)) (o8 : 1 ≤ o ∧ o ≤ 8) (oc : CfgOk ((2 * o : Nat) : Int) ((4 * rs.length : Nat) : Int) c) (e : rowAt ((2 * o : Nat) : Int) (upRows rs o rs.length) c = none) (q : Q (.bl true) h) : W_Tape_stopped T [.ref p, c.d] h Q Qx :=
  stopped_ok T it (by omega) (by omega) upRows_len2 oc (by rw [decide_eq_true e]; exact q)
theorem tp_step (T : Tx K mg) {h : DH} {Q : QD} {Qx : QX} {p : Addr} {k o : Nat} {rs : List CRw} {c : Cfg} {x : Option Cfg} (it : IsTape T h p ((2 * o : Nat) : Int) ((4 * rs.length : Nat) : Int) (upRows rs o rs.length)) (hk : 1 ≤ k ∧ k ≤ 3) (ho : o = 2 ^ k) (ok : ∀ r ∈ rs, COk (k : Nat) (rs.length : Nat) r) (oc : CfgOk ((2 * o : Nat) : Int) ((4 * rs.length : Nat) : Int) c) (bg : c.big 200) (e : stepO ((2 * o : Nat) : Int) (upRows rs o rs.length) c = x) (q : Q (cfgO x) h) : W_Tape_step T [.ref p, c.d] h Q Qx :=
  tapestep_ok T it (by have := pow3 hk ho; omega) (by have := pow3 hk ho; omega) upRows_len2 (upRows_ok hk ho ok) oc bg (by rw [e]; exact q)
theorem uhome_none {k o : Nat} {rs : List CRw} {c : CC} (oc : c.Ok k (rs.length : Nat)) (o8 : 1 ≤ o ∧ o ≤ 8) (e : c.step rs = none) : rowAt ((2 * o : Nat) : Int) (upRows rs o rs.length) (upC o c) = none ∧ paceU rs c = 0 := by
  have z0 := oc.s0
  have z1 := oc.s1
  have er : rs.getD c.st.toNat none = none := by
    unfold CC.step at e
    cases er : rs.getD c.st.toNat none with
    | none => rfl
    | some r => obtain ⟨b, i, t, u⟩ := r; rw [er] at e; cases b <;> cases e
  refine ⟨?_, by unfold paceU; rw [er]⟩
  obtain ⟨q, hq⟩ := Int.eq_ofNat_of_zero_le z0
  rw [hq, Int.toNat_natCast] at er
  unfold upC
  rw [upRow (q := q) (p := 0) (by rw [hq]; omega) (by omega) (by decide) (by omega) (by omega), er, upR0, if_pos rfl]
local macro_rules | `(tactic| walk_at "wcall") => `(tactic| ((with_reducible refine up_down _ (up := ?s1) (lo := ?s2) (k := ?s3) (o := ?s4) (s := ?s5) ?g1 ?g3 ?g4 ?g5 ?g2); (case g1 => walk_at "wi"); (case g3 => with_reducible assumption); (case g4 => with_reducible assumption); (case g5 => omega)))
local macro_rules | `(tactic| walk_at "wcall") => `(tactic| ((with_reducible refine up_yes _ (up := ?s1) (lo := ?s2) (k := ?s3) (o := ?s4) (rs := ?s5) ?g1 ?g3 ?g4 ?g5 ?g6 ?g7 ?g8 ?g2); (case g1 => walk_at "wi"); (case g3 => walk_at "wi"); (case g4 => walk_at "wi"); (case g5 => with_reducible assumption); (case g6 => with_reducible assumption); (case g7 => with_reducible assumption); (case g8 => omega)))
local macro_rules | `(tactic| walk_at "wcall") => `(tactic| ((with_reducible refine up_no _ (up := ?s1) (lo := ?s2) (o := ?s4) ?g1 ?g3 ?g2); (case g1 => walk_at "wi"); (case g3 => with_reducible assumption)))
local macro_rules | `(tactic| walk_at "wcall") => `(tactic| ((with_reducible refine up_pace _ (up := ?s1) (lo := ?s2) (k := ?s3) (o := ?s4) (rs := ?s5) (v := ?s6) ?g1 ?g3 ?g4 ?g5 ?g6 ?g2); (case g1 => walk_at "wi"); (case g3 => walk_at "wi"); (case g4 => with_reducible assumption); (case g5 => with_reducible assumption); (case g6 => with_reducible assumption)))
local macro_rules | `(tactic| walk_at "wcall") => `(tactic| ((with_reducible refine tp_stop_n _ (o := ?s4) (rs := ?s5) (n := 0) ?g1 ?g3 ?g4 ?g5 ?g2); (case g1 => walk_at "wi"); (case g3 => with_reducible assumption); (case g4 => with_reducible assumption); (case g5 => with_reducible assumption)))
theorem tp_step_s (T : Tx K mg) {h : DH} {Q : QD} {Qx : QX} {p : Addr} {k o : Nat} {rs : List CRw} {c x : Cfg} (it : IsTape T h p ((2 * o : Nat) : Int) ((4 * rs.length : Nat) : Int) (upRows rs o rs.length)) (hk : 1 ≤ k ∧ k ≤ 3) (ho : o = 2 ^ k) (ok : ∀ r ∈ rs, COk (k : Nat) (rs.length : Nat) r) (oc : CfgOk ((2 * o : Nat) : Int) ((4 * rs.length : Nat) : Int) c) (bg : c.big 200) (e : stepO ((2 * o : Nat) : Int) (upRows rs o rs.length) c = some x) (q : Q x.d h) : W_Tape_step T [.ref p, c.d] h Q Qx := tp_step T it hk ho ok oc bg e q
theorem tp_step_n (T : Tx K mg) {h : DH} {Q : QD} {Qx : QX} {p : Addr} {k o : Nat} {rs : List CRw} {c : Cfg} (it : IsTape T h p ((2 * o : Nat) : Int) ((4 * rs.length : Nat) : Int) (upRows rs o rs.length)) (hk : 1 ≤ k ∧ k ≤ 3) (ho : o = 2 ^ k) (ok : ∀ r ∈ rs, COk (k : Nat) (rs.length : Nat) r) (oc : CfgOk ((2 * o : Nat) : Int) ((4 * rs.length : Nat) : Int) c) (bg : c.big 200) (e : stepO ((2 * o : Nat) : Int) (upRows rs o rs.length) c = none) (q : Q .non h) : W_Tape_step T [.ref p, c.d] h Q Qx := tp_step T it hk ho ok oc bg e q
local macro_rules | `(tactic| walk_at "wcall") => `(tactic| ((with_reducible refine tp_step_s _ (k := ?s3) (o := ?s4) (rs := ?s5) (x := ?s6) ?g1 ?g3 ?g4 ?g5 ?g6 ?g7 ?g8 ?g2); (case g1 => walk_at "wi"); (case g3 => with_reducible assumption); (case g4 => with_reducible assumption); (case g5 => with_reducible assumption); (case g6 => with_reducible assumption); (case g7 => with_reducible assumption); (case g8 => with_reducible assumption)))
local macro_rules | `(tactic| walk_at "wcall") => `(tactic| ((with_reducible refine tp_step_n _ (k := ?s3) (o := ?s4) (rs := ?s5) ?g1 ?g3 ?g4 ?g5 ?g6 ?g7 ?g8 ?g2); (case g1 => walk_at "wi"); (case g3 => with_reducible assumption); (case g4 => with_reducible assumption); (case g5 => with_reducible assumption); (case g6 => with_reducible assumption); (case g7 => with_reducible assumption); (case g8 => with_reducible assumption)))
theorem gis_cfgS {neg : Bool} {c : Cfg} {h : DH} {Q : QD} (q : Q (.bl neg) h) : gIs neg c.d .non h Q := q
local macro_rules | `(tactic| walk_at "wcall") => `(tactic| (with_reducible refine gis_cfgS ?_))
local macro_rules | `(tactic| walk_at "plx") => `(tactic| with_reducible exact plN_le (pl_cfgU _) (by decide))
theorem stepO_none {m : Int} {rs : List Rw} {c : Cfg} (e : rowAt m rs c = none) : stepO m rs c = none := by unfold stepO; rw [e]
theorem mx_set : ∀ (cs : List Int) (i : Nat) (y : Int), mxU (cs.set i y) ≤ max (mxU cs) y.toNat
  | [], i, y => Nat.zero_le _
  | x :: xs, 0, y => by
    show max y.toNat (mxU xs) ≤ max (max x.toNat (mxU xs)) y.toNat; omega
  | x :: xs, i + 1, y => by
    have := mx_set xs i y
    show max x.toNat (mxU (xs.set i y)) ≤ max (max x.toNat (mxU xs)) y.toNat; omega
theorem mx_step {rs : List CRw} {c c' : CC} (e : c.step rs = some c') : mxU c'.cs ≤ mxU c.cs + 1 := by
  unfold CC.step at e
  cases er : rs.getD c.st.toNat none with
  | none => rw [er] at e; cases e
  | some r =>
    obtain ⟨b, i, t, u⟩ := r
    rw [er] at e
    have h := le_mx c.cs i.toNat
    cases b
    · dsimp only at e
      split at e
      · cases e
        have := mx_set c.cs i.toNat (c.cs.getD i.toNat 0 - 1)
        show mxU (c.cs.set _ _) ≤ _
        omega
      · cases e
        show mxU c.cs ≤ _
        omega
    · dsimp only at e
      cases e
      have := mx_set c.cs i.toNat (c.cs.getD i.toNat 0 + 1)
      show mxU (c.cs.set _ _) ≤ _
      omega
theorem upace_le {rs : List CRw} {c : CC} : paceU rs c ≤ 2 * (mxU c.cs : Nat) + 2 := by
  unfold paceU
  cases rs.getD c.st.toNat none with
  | none => show (0 : Int) ≤ _; omega
  | some r => obtain ⟨b, i, t, u⟩ := r; have := le_mx c.cs i.toNat; dsimp only; omega
theorem chain {s : Nat} {rs : List Rw} {c : Cfg} (oc : CfgOk 2 (s : Nat) c) (hl : rs.length = 2 * s) {w v t : Int} (e : rowAt 2 rs c = some (w, v, t)) : ∃ (n : Nat) (cs : Nat → SC), (if v = 1 then (2 : Int) else 4) = (n : Nat) ∧ 1 ≤ n ∧ n ≤ 4 ∧ cs 0 = c.down ∧ cs n = (stepZ w v t c).down ∧
    (∀ i, i < n → (cs i).step (srows rs s) = some (cs (i + 1))) ∧ (∀ i, 0 < i → i < n → (cs i).st % 9 ≠ 0) := by
  have h2 := oc.mk0; have h3 := oc.mk1
  have hp := (side_stk oc.l).pop
  by_cases hv : v = 1
  · subst hv
    refine ⟨2, fun i => match i with | 0 => c.down | 1 => ⟨9 * c.st + 1 + 4 * c.md, c.l, c.r⟩ | _ => (stepZ w 1 t c).down, rfl, by decide, by decide, rfl, rfl, ?_, ?_⟩
    · intro i hi
      match i, hi with
      | 0, _ => exact down_pop oc
      | 1, _ => exact low_right oc hl e
    · intro i h0 h1
      match i, h0, h1 with
      | 1, _, _ => have := up_mod (c := c) h2 h3 (j := 0) (by decide) (by decide); simpa using this
  · obtain ⟨l1, l2, l3⟩ := low_left oc hl hv e
    refine ⟨4, fun i => match i with | 0 => c.down | 1 => ⟨9 * c.st + 1 + 4 * c.md, c.l, c.r⟩ | 2 => ⟨9 * c.st + 1 + 4 * c.md + 1, c.l, push w c.r⟩ | 3 => ⟨9 * c.st + 1 + 4 * c.md + 2 + popM c.l, c.l.tail, push w c.r⟩ | _ => (stepZ w v t c).down, by rw [if_neg hv]; rfl, by decide, by decide, rfl, rfl, ?_, ?_⟩
    · intro i hi
      match i, hi with
      | 0, _ => exact down_pop oc
      | 1, _ => exact l1
      | 2, _ => exact l2
      | 3, _ => exact l3
    · intro i h0 h1
      match i, h0, h1 with
      | 1, _, _ => have := up_mod (c := c) h2 h3 (j := 0) (by decide) (by decide); simpa using this
      | 2, _, _ => exact up_mod (c := c) h2 h3 (j := 1) (by decide) (by decide)
      | 3, _, _ =>
        have := up_mod (c := c) h2 h3 (j := 2 + popM c.l) (by omega) (by omega)
        show (9 * c.st + 1 + 4 * c.md + 2 + popM c.l) % 9 ≠ 0
        rw [show 9 * c.st + 1 + 4 * c.md + 2 + popM c.l = 9 * c.st + 1 + 4 * c.md + (2 + popM c.l) by omega]; exact this
theorem chain_ok {rs : List SRw} {z : Int} {n b : Nat} {cs : Nat → SC} (ok : ∀ r ∈ rs, SOk z r) (h0 : (cs 0).Ok z) (hb : (cs 0).big b) (st : ∀ i, i < n → (cs i).step rs = some (cs (i + 1))) : ∀ i, i ≤ n → (cs i).Ok z ∧ (cs i).big (b + i)
  | 0, _ => ⟨h0, hb⟩
  | i + 1, h => by
    obtain ⟨a1, a2⟩ := chain_ok ok h0 hb st i (by omega)
    exact ⟨SC.step_ok ok a1 (st i (by omega)), SC.step_big a2 (st i (by omega))⟩
theorem run_chain {rs : List SRw} {n : Nat} {cs : Nat → SC} (st : ∀ i, i < n → (cs i).step rs = some (cs (i + 1))) : ∀ k, k ≤ n → SC.run rs k (cs (n - k)) = (cs n, k)
  | 0, _ => rfl
  | k + 1, h => by
    have e := st (n - (k + 1)) (by omega)
    rw [SC.run_go e, show n - (k + 1) + 1 = n - k by omega, run_chain st k (by omega)]
theorem SC.run_join {rs : List SRw} : ∀ (a b : Nat) (c : SC), SC.run rs (a + b) c = ((SC.run rs b (SC.run rs a c).1).1, (SC.run rs a c).2 + (SC.run rs b (SC.run rs a c).1).2)
  | 0, b, c => by rw [Nat.zero_add]; show _ = (_, 0 + _); rw [Nat.zero_add]; rfl
  | a + 1, b, c => by
    cases e : c.step rs with
    | none => rw [SC.run_stop e, SC.run_stop e]; show (c, 0) = ((SC.run rs b c).1, 0 + (SC.run rs b c).2); rw [SC.run_stop e]; rfl
    | some r =>
      rw [show a + 1 + b = (a + b) + 1 by omega, SC.run_go e, SC.run_go e, SC.run_join a b]
      exact congrArg (Prod.mk _) (Nat.add_right_comm _ _ _)
theorem pl_cfg (c : Cfg) : plN 2 c.d = true := by
  refine plT ?_
  rw [List.all_cons, List.all_cons, List.all_cons, List.all_cons, plI, plI, plT (pl_ints _), plT (pl_ints _)]; rfl
theorem updown {c : Cfg} : D.tup [.int (c.down.st / 9), .tup (c.down.a.map D.int), .int (popM c.down.b), .tup (c.down.b.tail.map D.int)] = c.d := by
  unfold Cfg.down Cfg.d
  dsimp only
  rw [pop_push, tail_push, show 9 * c.st / 9 = c.st by omega]
theorem gis_sc2 {neg : Bool} {c : SC} {h : DH} {Q : QD} : gIs neg c.d .non h Q = Q (.bl neg) h := rfl
/-- the pace -/
def paceZ (rs : List Rw) (c : Cfg) : Nat := match rowAt 2 rs c with
  | none => 0
  | some (_, v, _) => if v = 1 then 2 else 4
theorem space2_ok (T : Tx K mg) {h : DH} {Q : QD} {Qx : QX} {sp tp lp : Addr} {s : Nat} {rs : List Rw} {c : Cfg} (st : IsStair T h sp tp lp s rs) (hl : rs.length = 2 * s) (oc : CfgOk 2 (s : Nat) c)
    (q : Q (.int (paceZ rs c : Nat)) h) : W_StackStair_pace T [.ref sp, c.d] h Q Qx := by
  refine space_ok T st hl oc ?_
  unfold paceZ at q
  cases e : rowAt 2 rs c with
  | none => rw [e] at q; exact q
  | some r =>
    obtain ⟨w, v, t⟩ := r
    rw [e] at q
    dsimp only at q ⊢
    split
    · rename_i z; rw [if_pos z] at q; exact q
    · rename_i z; rw [if_neg z] at q; exact q
/-! the round: a tape, stacks, counters, a tape -/
def nextZ (rs : List Rw) (c : Cfg) : Cfg := match rowAt 2 rs c with
  | none => c
  | some (w, v, t) => stepZ w v t c
theorem sst_make (T : Tx K mg) {h : DH} {Q : QD} {Qx : QX} {tp : Addr} {s : Nat} {rs : List Rw} (it : IsTape T h tp 2 (s : Nat) rs) (hl : rs.length = 2 * s) (ok : ∀ r ∈ rs, RowOk 2 (s : Nat) r) (h0 : 1 ≤ s) (h1 : s ≤ 500)
    (q : ∀ sp lp h', Sub h h' → h sp = none → IsStair T h' sp tp lp s rs → Q (.ref sp) h') : Make T.C_StackStair (W_StackStairdd_initdd T) [.ref tp] h Q Qx := by
  intro p f
  exact stair_init T f it hl ok h0 h1 fun lp h' s' st => ⟨rfl, q p lp h' s' f st⟩
theorem Cfg.big_le {c : Cfg} {n m : Nat} (h : c.big n) (l : n ≤ m) : c.big m := ⟨Nat.le_trans h.1 l, Nat.le_trans h.2 l⟩
theorem upC_big {o : Nat} {c : CC} : (upC o c).big (mxU c.cs) := ⟨Nat.zero_le _, by show (seg (Fv c.cs) 0 (mxU c.cs)).length ≤ _; rw [seg_len]; omega⟩
def Uz (rs : List CRw) (o t B : Nat) (a b : CC) : Prop := runZ ((2 * o : Nat) : Int) (upRows rs o rs.length) t (upC o a) = (upC o b, t) ∧ ∀ i, i ≤ t → (runZ ((2 * o : Nat) : Int) (upRows rs o rs.length) i (upC o a)).1.big B
theorem Uz.nil {rs : List CRw} {o B : Nat} {a : CC} (h : mxU a.cs ≤ B) : Uz rs o 0 B a a := ⟨rfl, fun i hi => by
  rw [Nat.le_zero.mp hi]; exact Cfg.big_le upC_big h⟩
theorem Uz.join {rs : List CRw} {o t t' B : Nat} {a b c : CC} (u : Uz rs o t B a b) (v : Uz rs o t' B b c) : Uz rs o (t + t') B a c := ⟨by rw [run_join, u.1]; dsimp only; rw [v.1], fun i hi => by
  rcases Nat.lt_or_ge i t with z | z
  · exact u.2 i (by omega)
  · obtain ⟨j, rfl⟩ := Nat.le.dest z
    rw [run_join, u.1]; dsimp only; exact v.2 j (by omega)⟩
theorem Uz.step {rs : List CRw} {k o B : Nat} {c c' : CC} (ok : ∀ r ∈ rs, COk (k : Nat) (rs.length : Nat) r) (oc : c.Ok k (rs.length : Nat)) (ho : o = 2 ^ k) (es : c.step rs = some c') (hb : 3 * mxU c.cs + 2 ≤ B) :
    ∃ p : Nat, paceU rs c = (p : Nat) ∧ p ≤ 2 * mxU c.cs + 2 ∧ Uz rs o p B c c' := by
  obtain ⟨r, er⟩ : ∃ r, rs.getD c.st.toNat none = some r := by
    unfold CC.step at es
    cases er : rs.getD c.st.toNat none with
    | none => rw [er] at es; cases es
    | some r => exact ⟨r, rfl⟩
  obtain ⟨n, cm, w, v, t, c2, ep, pt, e1, e2, es2⟩ := chainU ok oc er ho
  rw [es] at es2
  cases es2
  obtain ⟨r1, _, _⟩ := pt.run e1 e2
  have pl := upace_le (rs := rs) (c := c)
  rw [ep] at pl
  refine ⟨n + 1, ep, by omega, r1, fun i hi => ?_⟩
  exact Cfg.big_le (run_big i _ _ upC_big) (by omega)
theorem mx_run {rs : List CRw} : ∀ (n : Nat) (c : CC), mxU (CC.run rs n c).1.cs ≤ mxU c.cs + n
  | 0, c => Nat.le_refl _
  | n + 1, c => by
    cases e : c.step rs with
    | none => rw [CC.run_stop e]; show mxU c.cs ≤ _; omega
    | some c' =>
      rw [CC.run_go e]
      have := mx_run (rs := rs) n c'
      have := mx_step e
      show mxU (CC.run rs n c').1.cs ≤ _
      omega
theorem mx_low {c : SC} {m : Nat} (ha : val c.a ≤ m) (hb : val c.b ≤ m) : mxU c.lowC.cs ≤ m := by
  show max (((val c.a : Nat) : Int)).toNat (max (((val c.b : Nat) : Int)).toNat (max (0 : Int).toNat 0)) ≤ m
  omega
theorem val_big {l : List Int} {n : Nat} (hb : IsBits l) (h : l.length ≤ n) : val l < 2 ^ n := Nat.lt_of_lt_of_le (val_lt hb) (Nat.pow_le_pow_right (by decide) h)
/-- one step of the stacks, in the counters -/
theorem stepC {rs : List SRw} {c c' : SC} (ok : ∀ r ∈ rs, SOk (rs.length : Nat) r) (oc : c.Ok (rs.length : Nat)) (bg : c.big 10) (es : c.step rs = some c') :
    ∃ n : Nat, c.paceC rs = (n : Nat) ∧ n ≤ 10000 ∧ (CC.run (lows rs) n c.lowC).1 = c'.lowC ∧ (∀ i, i < n → (CC.run (lows rs) i c.lowC).1.step (lows rs) = some (CC.run (lows rs) (i + 1) c.lowC).1) ∧ (∀ i, 0 < i → i < n → (CC.run (lows rs) i c.lowC).1.Off) ∧ ∀ i, i ≤ n → 3 * mxU (CC.run (lows rs) i c.lowC).1.cs + 2 ≤ 40000 := by
  obtain ⟨r, er⟩ : ∃ r, rs.getD c.st.toNat none = some r := by
    unfold SC.step at es
    cases er : rs.getD c.st.toNat none with
    | none => rw [er] at es; cases es
    | some r => exact ⟨r, rfl⟩
  obtain ⟨n, cm, c2, ep, pt, es2, em⟩ := chainC ok oc er
  have pl := pace_le ok oc bg
  rw [ep] at pl
  rw [es] at es2
  cases es2
  obtain ⟨r1, r2, r3⟩ := pt.run em
  refine ⟨n + 1, ep, by omega, by rw [r1], r2, r3, fun i hi => ?_⟩
  have h1 := mx_run (rs := lows rs) i c.lowC
  have h2 : mxU c.lowC.cs ≤ 1023 := mx_low (by have := val_big oc.a.1 bg.1; omega) (by have := val_big oc.b.1 bg.2; omega)
  omega
/-- the pop of a bit keeps the counters small -/
def PopI (p v A : Int) (cc : CC) : Prop := ∃ x y : Int, 0 ≤ x ∧ 0 ≤ y ∧ cc.cs = [A, x, y] ∧ ((cc.st = 7 * p ∧ x + 2 * y ≤ v) ∨ (cc.st = 7 * p + 1 ∧ x + 2 * y + 1 ≤ v) ∨ (cc.st = 7 * p + 2 ∧ x + 2 * y + 2 ≤ v) ∨ (cc.st = 7 * p + 3 ∧ x + y ≤ v) ∨ (cc.st = 7 * p + 4 ∧ x + y + 1 ≤ v) ∨ (cc.st = 7 * p + 5 ∧ x + y ≤ v) ∨ (cc.st = 7 * p + 6 ∧ x + y + 1 ≤ v))
theorem popI_step {rs : List CRw} {p v A t u : Int} {c c' : CC}
    (b0 : rs.getD (7 * p).toNat none = some (false, 1, 7 * p + 1, 7 * p + 3)) (b1 : rs.getD (7 * p + 1).toNat none = some (false, 1, 7 * p + 2, 7 * p + 5)) (b2 : ∃ z, rs.getD (7 * p + 2).toNat none = some (true, 2, 7 * p, z))
    (b3 : rs.getD (7 * p + 3).toNat none = some (false, 2, 7 * p + 4, 7 * t)) (b4 : ∃ z, rs.getD (7 * p + 4).toNat none = some (true, 1, 7 * p + 3, z)) (b5 : rs.getD (7 * p + 5).toNat none = some (false, 2, 7 * p + 6, 7 * u)) (b6 : ∃ z, rs.getD (7 * p + 6).toNat none = some (true, 1, 7 * p + 5, z))
    (i : PopI p v A c) (e : c.step rs = some c') : PopI p v A c' ∨ ¬ c'.Off := by
  obtain ⟨x, y, hx, hy, ec, i⟩ := i
  obtain ⟨st, cs⟩ := c
  obtain ⟨z2, b2⟩ := b2
  obtain ⟨z4, b4⟩ := b4
  obtain ⟨z6, b6⟩ := b6
  dsimp only at ec i
  subst ec
  unfold CC.step at e
  dsimp only at e
  rcases i with ⟨rfl, i⟩ | ⟨rfl, i⟩ | ⟨rfl, i⟩ | ⟨rfl, i⟩ | ⟨rfl, i⟩ | ⟨rfl, i⟩ | ⟨rfl, i⟩
  · rw [b0] at e
    simp only [Int.toNat_one, List.getD_cons_succ, List.getD_cons_zero, List.set_cons_succ, List.set_cons_zero] at e
    split at e
    · cases e; exact .inl ⟨x - 1, y, by omega, hy, rfl, .inr (.inl ⟨rfl, by omega⟩)⟩
    · cases e; exact .inl ⟨x, y, hx, hy, rfl, .inr (.inr (.inr (.inl ⟨rfl, by omega⟩)))⟩
  · rw [b1] at e
    simp only [Int.toNat_one, List.getD_cons_succ, List.getD_cons_zero, List.set_cons_succ, List.set_cons_zero] at e
    split at e
    · cases e; exact .inl ⟨x - 1, y, by omega, hy, rfl, .inr (.inr (.inl ⟨rfl, by omega⟩))⟩
    · cases e; exact .inl ⟨x, y, hx, hy, rfl, .inr (.inr (.inr (.inr (.inr (.inl ⟨rfl, by omega⟩)))))⟩
  · rw [b2] at e
    have e : some (CC.mk (7 * p) [A, x, y + 1]) = some c' := e
    cases e
    exact .inl ⟨x, y + 1, hx, by omega, rfl, .inl ⟨rfl, by omega⟩⟩
  · rw [b3] at e
    have e : some (if 0 < y then CC.mk (7 * p + 4) [A, x, y - 1] else CC.mk (7 * t) [A, x, y]) = some c' := e
    split at e
    · cases e; exact .inl ⟨x, y - 1, hx, by omega, rfl, .inr (.inr (.inr (.inr (.inl ⟨rfl, by omega⟩))))⟩
    · cases e
      refine .inr fun o => ?_
      rcases o with o | o
      · have o : 7 * t % 7 ≠ 0 := o; omega
      · have o : y ≠ 0 := o; omega
  · rw [b4] at e
    have e : some (CC.mk (7 * p + 3) [A, x + 1, y]) = some c' := e
    cases e
    exact .inl ⟨x + 1, y, by omega, hy, rfl, .inr (.inr (.inr (.inl ⟨rfl, by omega⟩)))⟩
  · rw [b5] at e
    have e : some (if 0 < y then CC.mk (7 * p + 6) [A, x, y - 1] else CC.mk (7 * u) [A, x, y]) = some c' := e
    split at e
    · cases e; exact .inl ⟨x, y - 1, hx, by omega, rfl, .inr (.inr (.inr (.inr (.inr (.inr ⟨rfl, by omega⟩)))))⟩
    · cases e
      refine .inr fun o => ?_
      rcases o with o | o
      · have o : 7 * u % 7 ≠ 0 := o; omega
      · have o : y ≠ 0 := o; omega
  · rw [b6] at e
    have e : some (CC.mk (7 * p + 5) [A, x + 1, y]) = some c' := e
    cases e
    exact .inl ⟨x + 1, y, by omega, hy, rfl, .inr (.inr (.inr (.inr (.inr (.inl ⟨rfl, by omega⟩)))))⟩
theorem popI_mx {p v A : Int} {m : Nat} {c : CC} (i : PopI p v A c) (hA : A ≤ m) (hv : v ≤ m) : mxU c.cs ≤ m := by
  obtain ⟨x, y, hx, hy, ec, i⟩ := i
  rw [ec]
  show max A.toNat (max x.toNat (max y.toNat 0)) ≤ m
  omega
theorem path_Uz {rs : List CRw} {k o B M n : Nat} {c : CC} (ok : ∀ r ∈ rs, COk (k : Nat) (rs.length : Nat) r) (oc : c.Ok k (rs.length : Nat)) (ho : o = 2 ^ k) (hB : 3 * M + 2 ≤ B)
    (st : ∀ i, i < n → (CC.run rs i c).1.step rs = some (CC.run rs (i + 1) c).1) (mx : ∀ i, i < n → mxU (CC.run rs i c).1.cs ≤ M) (m0 : mxU c.cs ≤ B) : ∀ i, i ≤ n → ∃ t, t ≤ (2 * M + 2) * i ∧ Uz rs o t B c (CC.run rs i c).1
  | 0, _ => ⟨0, Nat.zero_le _, Uz.nil m0⟩
  | i + 1, h => by
    obtain ⟨t, h1, h2⟩ := path_Uz ok oc ho hB st mx m0 i (by omega)
    have hm := mx i (by omega)
    obtain ⟨p, _, hp, u⟩ := Uz.step (B := B) ok (CC.run_ok ok i c oc) ho (st i (by omega)) (by omega)
    refine ⟨t + p, ?_, h2.join u⟩
    rw [Nat.mul_succ]; omega
theorem popPath {rs : List SRw} {c c' : SC} {t u : Int} (ok : ∀ r ∈ rs, SOk (rs.length : Nat) r) (oc : c.Ok (rs.length : Nat)) (bg : c.big 4) (er : rs.getD c.st.toNat none = some (false, 1, t, u)) (es : c.step rs = some c') :
    ∃ n, n < 2000 ∧ Uz (lows rs) 8 n 40000 c.lowC c'.lowC := by
  have z0 := oc.s0
  have z1 := oc.s1
  obtain ⟨n, ep, hn, r1, r2, r3, _⟩ := stepC ok oc ⟨by have := bg.1; omega, by have := bg.2; omega⟩ es
  have va : val c.a < 16 := val_big oc.a.1 bg.1
  have vb : val c.b < 16 := val_big oc.b.1 bg.2
  have n38 : n ≤ 38 := by
    unfold SC.paceC at ep
    rw [er] at ep
    dsimp only at ep
    rw [SC.num1] at ep
    omega
  obtain ⟨p, hp⟩ := Int.eq_ofNat_of_zero_le z0
  have hpl : p < rs.length := by omega
  have at' : ∀ j : Nat, j < 7 → (lows rs).getD (7 * (p : Int) + (j : Int)).toNat none = (lowRow p (some (false, 1, t, u))).getD j none := fun j hj => by
    rw [show (7 * (p : Int) + (j : Int)).toNat = 7 * p + j by omega, lows, lowsN_at hj _ hpl]
    rw [hp, Int.toNat_natCast] at er
    rw [er]
  have a0 := at' 0 (by decide)
  rw [show 7 * (p : Int) + ((0 : Nat) : Int) = 7 * (p : Int) by omega] at a0
  have pi : ∀ i, i < n → PopI p (val c.b : Nat) (val c.a : Nat) (CC.run (lows rs) i c.lowC).1 := by
    intro i
    induction i with
    | zero => intro _; exact ⟨(val c.b : Nat), 0, by omega, by omega, rfl, .inl ⟨by show 7 * c.st = _; rw [hp], by omega⟩⟩
    | succ i ih =>
      intro h
      rcases popI_step (rs := lows rs) (p := p) (t := t) (u := u) a0 (at' 1 (by decide)) ⟨_, at' 2 (by decide)⟩ (at' 3 (by decide)) ⟨_, at' 4 (by decide)⟩ (at' 5 (by decide)) ⟨_, at' 6 (by decide)⟩ (ih (by omega)) (r2 i (by omega)) with q | q
      · exact q
      · exact absurd (r3 (i + 1) (by omega) h) q
  obtain ⟨t', ht, hu⟩ := path_Uz (o := 8) (k := 3) (B := 40000) (M := 15) (lows_ok ok) (lowC_ok oc) rfl (by decide) r2 (fun i hi => popI_mx (pi i hi) (by omega) (by omega)) (by have := mx_low (c := c) (m := 15) (by omega) (by omega); omega) n (Nat.le_refl _)
  rw [r1] at hu
  exact ⟨t', by omega, hu⟩
theorem tapetailB_ok {E : En} {hh : DH} {pb pa : Addr} {lb la : List Int} {w k : Int} {e0 e1 e2 e3 e4 e5 e6 e7 e8 e10 e12 : Option D} (hb : hh pb = some (.lst (lb.map D.int).reverse)) (ha : hh pa = some (.lst (la.map D.int).reverse)) (ne : pb ≠ pa) (h1 : lb.length ≤ 1000000)
    (q : E.nx [e0, e1, e2, e3, e4, some (.int (popM la)), e6, e7, e8, some (.int (k + 1)), e10, some (.int w), e12, some (.ref pb), some (.ref pa)] (dup (dup hh pb (.lst ((push w lb).map D.int).reverse)) pa (.lst (la.tail.map D.int).reverse))) :
    wSeq (wIfS (wOr (wTru (wVar 13)) (wB (wOp2 (gEq true) (wVar 11) (wC (.int 0))))) (wExpr (wAppend (wVar 13) (wCons (wVar 11) wNil))) wNext)
      (wSeq (wSet 5 (wIf (wTru (wVar 14)) (wPop (wVar 14)) (wC (.int 0))))
        (wAugI 9 (fun a b => a + b) (wC (.int 1)))) E [e0, e1, e2, e3, e4, e5, e6, e7, e8, some (.int k), e10, some (.int w), e12, some (.ref pb), some (.ref pa)] hh := by
  refine seq_i fun N hN => ?_
  have go : N [e0, e1, e2, e3, e4, e5, e6, e7, e8, some (.int k), e10, some (.int w), e12, some (.ref pb), some (.ref pa)] (dup hh pb (.lst ((push w lb).map D.int).reverse)) := by
    refine hN _ _ ?_
    refine seq_i fun N1 hN1 => ?_
    have ha' : dup hh pb (.lst ((push w lb).map D.int).reverse) pa = some (.lst (la.map D.int).reverse) := by rw [dup_ne (Ne.symm ne)]; exact ha
    cases la with
    | nil =>
      have tr : ∀ QT, Tru (.ref pa) (dup hh pb (.lst ((push w lb).map D.int).reverse)) QT = QT false (dup hh pb (.lst ((push w lb).map D.int).reverse)) := by
        intro QT; unfold Tru; simp only [ha']; rfl
      walk_at "ev"
      simp only [tr]
      walk_at "ev"
      refine hN1 _ _ ?_
      walk_at "ev"
      rw [show ([] : List Int).tail = [] from rfl, dup_id ha'] at q
      exact q
    | cons x xs =>
      have tr : ∀ QT, Tru (.ref pa) (dup hh pb (.lst ((push w lb).map D.int).reverse)) QT = QT true (dup hh pb (.lst ((push w lb).map D.int).reverse)) := by
        intro QT; unfold Tru; simp only [ha']
        rw [List.map_cons, List.reverse_cons]
        cases (xs.map D.int).reverse <;> rfl
      walk_at "ev"
      simp only [tr]
      walk_at "ev"
      simp only [ha', rev_last, rev_pop]
      walk_at "ev"
      refine hN1 _ _ ?_
      walk_at "ev"
      exact q
  cases lb with
  | nil =>
    have tr : ∀ QT, Tru (.ref pb) hh QT = QT false hh := by
      intro QT; unfold Tru; simp only [hb]; rfl
    walk_at "ev"
    simp only [tr]
    walk_at "ev"
    by_cases z : w = 0
    · subst z
      simp
      walk_at "ev"
      rw [show push 0 [] = [] from rfl, dup_id hb] at go
      exact go
    · have e1 : (if True then !decide (w = 0) else decide (w = 0)) = true := by simp [z]
      rw [← rev_push (fun y => z y.2)] at go
      simp [z]
      walk_at "ev"
      simp only [hb]
      walk_at "ev"
      try simp only [hb]
      walk_at "ev"
      refine ⟨by rw [List.length_reverse, List.length_map]; show 0 < 16777216; omega, go⟩
  | cons x xs =>
    have tr : ∀ QT, Tru (.ref pb) hh QT = QT true hh := by
      intro QT; unfold Tru; simp only [hb]
      rw [List.map_cons, List.reverse_cons]
      cases (xs.map D.int).reverse <;> rfl
    walk_at "ev"
    simp only [tr]
    walk_at "ev"
    simp only [hb]
    walk_at "ev"
    try simp only [hb]
    rw [← rev_push (l := x :: xs) (fun y => List.cons_ne_nil _ _ y.1)] at go
    walk_at "ev"
    refine ⟨by rw [List.length_reverse, List.length_map]; exact Nat.lt_of_le_of_lt h1 (by show 1000000 < 16777216; omega), go⟩
theorem taperunB_ok (T : Tx K mg) {h : DH} {Q : QD} {Qx : QX} {p : Addr} {m s : Int} {rs : List Rw} {c : Cfg} {n : Nat} (it : IsTape T h p m s rs) (hm : 2 ≤ m) (hm' : m ≤ 16) (hl : rs.length = (m * s).toNat) (ok : ∀ r ∈ rs, RowOk m s r) (oc : CfgOk m s c) (bg : ∀ i, i ≤ n → (runZ m rs i c).1.big 1000000)
    (q : Q (.tup [(runZ m rs n c).1.d, .int ((runZ m rs n c).2 : Nat)]) h) : W_Tape_run T [.ref p, c.d, .int (n : Nat)] h Q Qx := by
  obtain ⟨rp, i1, i2⟩ := it
  unfold Cfg.d
  refine def_i rfl fun E hrt _ _ => ?_
  walk_at "en"
  refine seq_i fun N hN => ?_
  walk_at "ev"
  refine ⟨rfl, hN _ _ ?_⟩
  refine seq_i fun N1 hN1 => ?_
  walk_at "ev"
  intro p1 f1
  refine hN1 _ _ ?_
  refine seq_i fun N2 hN2 => ?_
  walk_at "ev"
  intro p2 f2
  refine hN2 _ _ ?_
  have n21 : p2 ≠ p1 := by intro z; subst z; rw [dup_same] at f2; cases f2
  rw [dup_ne n21] at f2
  have np1 : p ≠ p1 := ne_fresh i1 f1
  have np2 : p ≠ p2 := ne_fresh i1 f2
  have nr1 : rp ≠ p1 := ne_fresh i2 f1
  have nr2 : rp ≠ p2 := ne_fresh i2 f2
  refine seq_i fun N3 hN3 => ?_
  walk_at "ev"
  refine hN3 _ _ ?_
  refine seq_i fun N4 hN4 => ?_
  refine while_i (fun k env hh => ∃ (c' : Cfg) (tk : Nat) (o10 o11 o12 o13 o14 : Option D), tk + k = n ∧ env = [some (.ref p), some c.d, some (.int n), some (.int c'.st), some (.tup (c.l.map D.int)), some (.int c'.md), some (.tup (c.r.map D.int)), some (.ref p1), some (.ref p2), some (.int tk), o10, o11, o12, o13, o14] ∧
      hh = dup (dup h p1 (.lst (c'.l.map D.int).reverse)) p2 (.lst (c'.r.map D.int).reverse) ∧ CfgOk m s c' ∧ (∀ i, i ≤ k → (runZ m rs i c').1.big 1000000) ∧ (runZ m rs n c).1 = (runZ m rs k c').1 ∧ (runZ m rs n c).2 = (runZ m rs k c').2 + tk) n ?_ ⟨c, 0, none, none, none, none, none, Nat.zero_add _, rfl, rfl, oc, bg, rfl, rfl⟩
  rintro k env hh N5 ⟨c', tk, o10, o11, o12, o13, o14, hk, rfl, rfl, oc', bg', e1, e2⟩ hN5
  have fp : dup (dup h p1 (.lst (c'.l.map D.int).reverse)) p2 (.lst (c'.r.map D.int).reverse) p = some (.ins T.C_Tape (tapeF m s rp)) := by rw [dup_ne np2, dup_ne np1]; exact i1
  have fr : dup (dup h p1 (.lst (c'.l.map D.int).reverse)) p2 (.lst (c'.r.map D.int).reverse) rp = some (.lst (rs.map rowD)) := by rw [dup_ne nr2, dup_ne nr1]; exact i2
  have g1 : dup (dup h p1 (.lst (c'.l.map D.int).reverse)) p2 (.lst (c'.r.map D.int).reverse) p1 = some (.lst (c'.l.map D.int).reverse) := by rw [dup_ne (Ne.symm n21), dup_same]
  have g2 : dup (dup h p1 (.lst (c'.l.map D.int).reverse)) p2 (.lst (c'.r.map D.int).reverse) p2 = some (.lst (c'.r.map D.int).reverse) := dup_same
  have done : ∀ o10 : Option D, (runZ m rs k c') = (c', 0) → N4 [some (.ref p), some c.d, some (.int n), some (.int c'.st), some (.tup (c.l.map D.int)), some (.int c'.md), some (.tup (c.r.map D.int)), some (.ref p1), some (.ref p2), some (.int tk), o10, o11, o12, o13, o14] (dup (dup h p1 (.lst (c'.l.map D.int).reverse)) p2 (.lst (c'.r.map D.int).reverse)) := by
    intro o10 e
    rw [e] at e1 e2
    rw [e1, e2] at q
    refine hN4 _ _ ?_
    walk_at "ev"
    simp only [g1]
    walk_at "ev"
    intro p3 f3
    have x1 : p3 ≠ p2 := by intro z; subst z; rw [g2] at f3; cases f3
    have x2 : p3 ≠ p1 := by intro z; subst z; rw [g1] at f3; cases f3
    simp only [dup_same, dup_ne (Ne.symm x1)]
    walk_at "ev"
    intro p4 f4
    have sub : DL.Sub h (dup (dup (dup (dup h p1 (DO.lst (List.map D.int c'.l).reverse)) p2 (DO.lst (List.map D.int c'.r).reverse)) p3 (DO.lst (List.map D.int c'.l).reverse.reverse)) p4 (DO.lst (List.map D.int c'.r).reverse.reverse)) :=
      (Sub.new f1).trans ((Sub.new (by rw [dup_ne n21]; exact f2)).trans ((Sub.new f3).trans (Sub.new f4)))
    refine hrt _ _ _ sub ?_
    rw [List.reverse_reverse, List.reverse_reverse]
    rw [show ((c', 0) : Cfg × Nat).2 + tk = tk from Nat.zero_add tk] at q
    exact q
  walk_at "ev"
  cases k with
  | zero =>
    rw [if_neg (by omega)]
    exact done _ rfl
  | succ k =>
    rw [if_pos (by omega)]
    have er := row_get hm hl oc'
    have okr := row_ok (c := c') ok
    refine seq_i fun N6 hN6 => ?_
    walk_at "ev"
    simp only [fp, tape_rows, tape_marks]
    walk_at "ev"
    simp only [fr, er]
    walk_at "ev"
    refine ⟨⟨⟨cmulR (by omega) (by omega), hN6 _ _ ?_⟩, tape_cls fp⟩, tape_cls fp⟩
    refine seq_i fun N7 hN7 => ?_
    cases e : rowAt m rs c' with
    | none =>
      unfold rowD
      walk_at "ev"
      exact done _ (run_stop e _)
    | some r =>
      obtain ⟨w, v, t⟩ := r
      rw [e] at okr
      have r3 := okr.2.2.1
      rw [run_go e] at e1 e2
      have next := step_cfg hm oc' okr
      have nbig : ∀ i, i ≤ k → (runZ m rs i (stepZ w v t c')).1.big 1000000 := fun i hi => by
        have := bg' (i + 1) (by omega)
        rw [run_go e] at this; exact this
      unfold rowD
      walk_at "ev"
      refine hN7 _ _ ?_
      refine seq_i fun N8 hN8 => ?_
      walk_at "ev"
      refine ⟨rfl, hN8 _ _ ?_⟩
      refine seq_i fun N9 hN9 => ?_
      have b1 : c'.l.length ≤ 1000000 := (bg' 0 (by omega)).1
      have b2 : c'.r.length ≤ 1000000 := (bg' 0 (by omega)).2
      rcases r3 with rfl | rfl
      · rw [stepZ, if_neg (by decide)] at e1 e2 next nbig
        walk_at "ev"
        (try rw [if_neg (by decide)])
        walk_at "ev"
        refine ⟨rfl, hN9 _ _ ?_⟩
        refine tapetailB_ok g2 g1 n21 (by omega) (hN5 k _ _ (by omega) ⟨_, tk + 1, _, _, _, _, _, by omega, rfl, ?_, next, nbig, e1, ?_⟩)
        · rw [heap_l n21]
        · rw [e2]; show _ + 1 + tk = _ + (tk + 1); omega
      · rw [stepZ, if_pos rfl] at e1 e2 next nbig
        walk_at "ev"
        refine ⟨rfl, hN9 _ _ ?_⟩
        refine tapetailB_ok g1 g2 (Ne.symm n21) (by omega) (hN5 k _ _ (by omega) ⟨_, tk + 1, _, _, _, _, _, by omega, rfl, ?_, next, nbig, e1, ?_⟩)
        · rw [heap_r n21]
        · rw [e2]; show _ + 1 + tk = _ + (tk + 1); omega
local macro_rules | `(tactic| walk_at "wix") => `(tactic| ((refine IsCSt.sub (h := ?s1) ?g1 ?g2); (case g1 => with_reducible assumption); (case g2 => walk_at "ws")))
local macro_rules | `(tactic| walk_at "wcall") => `(tactic| ((with_reducible refine cst_downC _ (s := ?s1) ?g1 ?g2); (case g1 => with_reducible assumption)))
local macro_rules | `(tactic| walk_at "wcall") => `(tactic| ((with_reducible refine cst_paceW _ (up := ?s1) (lo := ?s2) (rs := ?s3) (v := ?s4) ?g1 ?g2 ?g3 ?g4 ?g5 ?g6); (case g1 => walk_at "wi"); (case g2 => walk_at "wi"); (case g3 => with_reducible assumption); (case g4 => with_reducible assumption); (case g5 => with_reducible assumption)))
local macro_rules | `(tactic| walk_at "wcall") => `(tactic| ((with_reducible refine stk_stepC _ (rs := ?s1) (c' := ?s2) ?g1 ?g3 ?g4 ?g5 ?g6 ?g2); (case g1 => walk_at "wi"); (case g3 => with_reducible assumption); (case g4 => with_reducible assumption); (case g5 => with_reducible assumption); (case g6 => with_reducible assumption)))
theorem lawsteps_ok (T : Tx K mg) {h : DH} {Q : QD} {Qx : QX} {ls sp tp lp cp lo up lt : Addr} {s : Nat} {rs : List Rw} {c : Cfg} {w v t : Int} (hls : h ls = some (.lst [.ref sp, .ref cp, .ref up])) (st : IsStair T h sp tp lp s rs) (ic : IsCSt T h cp lp lo) (il : IsCtr T h lo (3 : Nat) (lows (srows rs s))) (iu : IsUp T h up lo lt 8)
    (hl : rs.length = 2 * s) (ok : ∀ r ∈ rs, RowOk 2 (s : Nat) r) (oc : CfgOk 2 (s : Nat) c) (bg : c.big 5) (e : rowAt 2 rs c = some (w, v, t)) (q : ∀ t' : Nat, Uz (lows (srows rs s)) 8 t' 40000 c.down.lowC (stepZ w v t c).down.lowC → Q (.int (t' : Nat)) h) : W_law_steps T [.ref ls, c.d] h Q Qx := by
  have sok := srows_ok ok
  have lok : ∀ r ∈ lows (srows rs s), COk ((3 : Nat) : Int) ((lows (srows rs s)).length : Nat) r := lows_ok sok
  obtain ⟨n, cs, en, n1, n4, c0, cn, stp, mods⟩ := chain oc hl e
  have bd : c.down.big 6 := ⟨by have := bg.1; show c.l.length ≤ 6; omega, by have := bg.2; have := push_len (x := c.md) (l := c.r); show (push c.md c.r).length ≤ 6; omega⟩
  have och := fun i hi => chain_ok (b := 6) sok (by rw [c0]; exact down_ok oc) (by rw [c0]; exact bd) stp i hi
  have pn : paceZ rs c = n := by
    unfold paceZ; rw [e]; dsimp only
    by_cases hv : v = 1
    · rw [if_pos hv] at en ⊢; omega
    · rw [if_neg hv] at en ⊢; omega
  obtain ⟨i0, it, iL⟩ := id st
  obtain ⟨xp, x1, x2⟩ := id it
  obtain ⟨jp, y1, y2⟩ := id iL
  have ic0 : h cp = some (.ins T.C_CounterStair [("upper", .ref lp), ("lower", .ref lo)]) := ic
  have iu0 : h up = some (.ins T.C_UpStair [("upper", .ref lo), ("_origin", .int (8 : Nat)), ("lower", .ref lt)]) := iu
  obtain ⟨kp, k1, k2⟩ := id il
  have m0 : mxU c.down.lowC.cs ≤ 40000 := by
    have := val_big (down_ok (rs := rs) oc).a.1 bd.1
    have := val_big (down_ok (rs := rs) oc).b.1 bd.2
    have := mx_low (c := c.down) (m := 64) (by omega) (by omega)
    omega
  walk_at "wf"
  refine sdown_ok T oc ⟨by have := bg.1; omega, by have := bg.2; omega⟩ ?_
  walk_at "w"
  refine space2_ok T st hl oc ?_
  rw [pn]
  walk_at "w"
  refine for_u [2, 3, 4, 5, 6] (fun i vs hh => ∃ (t' : Nat) (o4 o5 o6 : Option D), vs = [some (.int (t' : Nat)), some (cs i).d, o4, o5, o6] ∧ Uz (lows (srows rs s)) 8 t' 40000 c.down.lowC (cs i).lowC) [some (.int 0), some c.down.d, none, none, none] rfl ⟨0, none, none, none, by rw [c0]; rfl, by rw [c0]; exact Uz.nil m0⟩ ?_ ?_
  · rintro i vs hh N hi sb ⟨t', o4, o5, o6, rfl, hu⟩ hN
    obtain ⟨oci, bi⟩ := och i (by omega)
    have sti := stp i hi
    have bi10 : (cs i).big 10 := ⟨by have := bi.1; omega, by have := bi.2; omega⟩
    have bi4 : (cs i).big 10000 := ⟨by have := bi.1; omega, by have := bi.2; omega⟩
    obtain ⟨m, ep, hm, r1, r2, _, r4⟩ := stepC sok oci bi10 sti
    have ol := lowC_ok oci
    walk_at "w"
    refine for_u [2, 5, 6] (fun j vs h2 => ∃ (t2 : Nat) (o6 : Option D), vs = [some (.int (t2 : Nat)), some (CC.run (lows (srows rs s)) j (cs i).lowC).1.d, o6] ∧ Uz (lows (srows rs s)) 8 t2 40000 c.down.lowC (CC.run (lows (srows rs s)) j (cs i).lowC).1) [some (.int (t' : Nat)), some (cs i).lowC.d, o6] rfl ⟨t', o6, rfl, hu⟩ ?_ ?_
    · rintro j vs h2 N2 hj sb2 ⟨t2, o6', rfl, hu2⟩ hN2
      have oj := CC.run_ok lok j _ ol
      have sj := r2 j hj
      obtain ⟨p, pe, _, pu⟩ := Uz.step (B := 40000) lok oj (o := 8) rfl sj (r4 j (by omega))
      have hk3 : (3 : Nat) ≤ 4 := by decide
      walk_at "w"
      exact hN2 [some (.int ((t2 + p : Nat) : Int)), _, _] _ _ ⟨t2 + p, _, rfl, hu2.join pu⟩ rfl (by walk_at "ws")
    · rintro vs h2 sb2 ⟨t2, o6', rfl, hu2⟩
      rw [r1] at hu2
      walk_at "w"
      exact hN [some (.int (t2 : Nat)), _, _, _, _] _ _ ⟨t2, _, _, _, rfl, hu2⟩ rfl (by walk_at "ws")
  · rintro vs hh sb ⟨t', o4, o5, o6, rfl, hu⟩
    rw [cn] at hu
    have q := q t' hu
    walk_at "w"
theorem lawdown_ok (T : Tx K mg) {h : DH} {Q : QD} {Qx : QX} {ls sp tp lp cp lo up lt : Addr} {s : Nat} {rs : List Rw} {c : Cfg} (hls : h ls = some (.lst [.ref sp, .ref cp, .ref up])) (st : IsStair T h sp tp lp s rs) (ic : IsCSt T h cp lp lo) (iu : IsUp T h up lo lt 8)
    (oc : CfgOk 2 (s : Nat) c) (bg : c.big 10) (q : Q (upC 8 c.down.lowC).d h) : W_law_down T [.ref ls, c.d] h Q Qx := by
  have od := down_ok (rs := rs) oc
  have ol := lowC_ok od
  have bd : c.down.big 11 := ⟨by have := bg.1; show c.l.length ≤ 11; omega, by have := bg.2; have := push_len (x := c.md) (l := c.r); show (push c.md c.r).length ≤ 11; omega⟩
  have m0 : mxU c.down.lowC.cs ≤ 10000 := by
    have := val_big od.a.1 bd.1
    have := val_big od.b.1 bd.2
    have := mx_low (c := c.down) (m := 2048) (by omega) (by omega)
    omega
  have k3 : 1 ≤ 3 ∧ 3 ≤ 3 := by decide
  obtain ⟨i0, it, iL⟩ := id st
  have ic0 : h cp = some (.ins T.C_CounterStair [("upper", .ref lp), ("lower", .ref lo)]) := ic
  have iu0 : h up = some (.ins T.C_UpStair [("upper", .ref lo), ("_origin", .int (8 : Nat)), ("lower", .ref lt)]) := iu
  walk_at "wf"
  refine for_f [1, 2] (fun i vs hh => ∃ o, vs = [some (match i with | 0 => c.d | 1 => c.down.d | 2 => c.down.lowC.d | _ => (upC 8 c.down.lowC).d), o]) [some c.d, none] rfl (fun h' s => s _ _ hls) ⟨none, rfl⟩ ?_ ?_
  · rintro i x vs hh N hx sb ⟨o, rfl⟩ hN
    match i, hx with
    | 0, hx =>
      cases hx
      walk_at "w"
      refine .inr (.inl ⟨⟨_, _, rfl, sb _ _ i0, rfl⟩, ?_⟩)
      refine sdown_ok T oc ⟨by have := bg.1; omega, by have := bg.2; omega⟩ ?_
      walk_at "w"
      exact hN [_, _] _ _ ⟨_, rfl⟩ rfl (by walk_at "ws")
    | 1, hx =>
      cases hx
      walk_at "w"
      refine .inl ⟨⟨_, _, rfl, sb _ _ ic0, rfl⟩, ?_⟩
      walk_at "w"
      exact hN [_, _] _ _ ⟨_, rfl⟩ rfl (by walk_at "ws")
    | 2, hx =>
      cases hx
      walk_at "w"
      refine .inr (.inr ⟨⟨_, _, rfl, sb _ _ iu0, rfl⟩, ?_⟩)
      refine up_down T (iu.sub sb) ol k3 m0 ?_
      walk_at "w"
      exact hN [_, _] _ _ ⟨_, rfl⟩ rfl (by walk_at "ws")
  · rintro vs hh sb ⟨o, rfl⟩
    walk_at "w"
theorem lawback_ok (T : Tx K mg) {h : DH} {Q : QD} {Qx : QX} {ls sp tp lp cp lo up lt : Addr} {s : Nat} {rs : List Rw} {c : Cfg} (hls : h ls = some (.lst [.ref sp, .ref cp, .ref up])) (st : IsStair T h sp tp lp s rs) (ic : IsCSt T h cp lp lo) (il : IsCtr T h lo (3 : Nat) (lows (srows rs s))) (iu : IsUp T h up lo lt 8)
    (it8 : IsTape T h lt ((2 * 8 : Nat) : Int) ((4 * (lows (srows rs s)).length : Nat) : Int) (upRows (lows (srows rs s)) 8 (lows (srows rs s)).length)) (oc : CfgOk 2 (s : Nat) c) (bg : c.big 10) (q : Q c.d h) : W_law_back T [.ref ls, (upC 8 c.down.lowC).d] h Q Qx := by
  have od := down_ok (rs := rs) oc
  have ol := lowC_ok od
  have bd : c.down.big 11 := ⟨by have := bg.1; show c.l.length ≤ 11; omega, by have := bg.2; have := push_len (x := c.md) (l := c.r); show (push c.md c.r).length ≤ 11; omega⟩
  have m0 : mxU c.down.lowC.cs ≤ 10000 := by
    have := val_big od.a.1 bd.1
    have := val_big od.b.1 bd.2
    have := mx_low (c := c.down) (m := 2048) (by omega) (by omega)
    omega
  have k3 : 1 ≤ 3 ∧ 3 ≤ 3 := by decide
  obtain ⟨i0, it, iL⟩ := id st
  have ic0 : h cp = some (.ins T.C_CounterStair [("upper", .ref lp), ("lower", .ref lo)]) := ic
  have iu0 : h up = some (.ins T.C_UpStair [("upper", .ref lo), ("_origin", .int (8 : Nat)), ("lower", .ref lt)]) := iu
  walk_at "wf"
  refine for_u [1, 2] (fun i vs hh => ∃ o, vs = [some (match i with | 0 => (upC 8 c.down.lowC).d | 1 => c.down.lowC.d | 2 => c.down.d | _ => c.d), o]) [some (upC 8 c.down.lowC).d, none] rfl ⟨none, rfl⟩ ?_ ?_
  · rintro i vs hh N hi sb ⟨o, rfl⟩ hN
    match i, hi with
    | 0, hi =>
      walk_at "w"
      refine .inr (.inr ?_)
      walk_at "w"
      have e2 : atI [D.ref sp, D.ref cp, D.ref up] ((([D.ref sp, D.ref cp, D.ref up].length : Nat) : Int) - 1 - ((0 : Nat) : Int)) = some (.ref up) := rfl
      rw [e2]
      walk_at "w"
      refine up_yes T (iu.sub sb) (il.sub sb) (it8.sub sb) ol k3 rfl m0 ?_
      walk_at "w"
      exact hN [_, _] _ _ ⟨_, rfl⟩ rfl (by walk_at "ws")
    | 1, hi =>
      walk_at "w"
      refine .inl ?_
      walk_at "w"
      have e2 : atI [D.ref sp, D.ref cp, D.ref up] ((([D.ref sp, D.ref cp, D.ref up].length : Nat) : Int) - 1 - ((1 : Nat) : Int)) = some (.ref cp) := rfl
      rw [e2]
      walk_at "w"
      refine cst_upC T od ⟨by have := bd.1; omega, by have := bd.2; omega⟩ ?_
      walk_at "w"
      exact hN [_, _] _ _ ⟨_, rfl⟩ rfl (by walk_at "ws")
    | 2, hi =>
      walk_at "w"
      refine .inr (.inl ?_)
      walk_at "w"
      have e2 : atI [D.ref sp, D.ref cp, D.ref up] ((([D.ref sp, D.ref cp, D.ref up].length : Nat) : Int) - 1 - ((2 : Nat) : Int)) = some (.ref sp) := rfl
      rw [e2]
      walk_at "w"
      refine sup_ok T od.s0 (fun z => absurd (show 9 * c.st % 9 = 0 by omega) z) (fun _ => ?_)
      rw [updown]
      walk_at "w"
      exact hN [_, _] _ _ ⟨_, rfl⟩ rfl (by walk_at "ws")
  · rintro vs hh sb ⟨o, rfl⟩
    walk_at "w"
theorem law_true {K : PySem.W.Frag} {mg : Str → Option Value} (T : Tx K mg) (ns : List Int) (hl : ns.length ≤ 63) : W_law T [.sl (ns.map D.int)] (fun _ => none) (fun d _ => d = .bl true) (fun _ _ => False) := by
  walk_at "wf"
  refine draws_w T hl (by decide) (by decide) fun dp ds h0 fd s0 e0 hd dr => ?_
  walk_at "w"
  obtain ⟨s, hs⟩ := Int.eq_ofNat_of_zero_le (show 0 ≤ 1 + dg ds 20 % 2 by omega)
  rw [hs]
  refine lawtaperows_ok T (m := 2) (n := s) (by walk_at "wh") dr (by decide) (by decide) (by omega) (by omega) (by omega) (by omega) fun rp rs fr hrs ok => ?_
  walk_at "w"
  refine tape_make T (m := 2) (rs := rs) (by decide) (by decide) (by omega) (by omega) dup_same (by omega) ok fun tp h1 s1 f1 it => ?_
  walk_at "w"
  refine sst_make T it hrs ok (by omega) (by omega) fun sp lp h2 s2 f2 st => ?_
  have sok := srows_ok ok
  have sln := srows_len rs s
  have lln := lows_len (srows rs s)
  have lok : ∀ r ∈ lows (srows rs s), COk ((3 : Nat) : Int) ((lows (srows rs s)).length : Nat) r := lows_ok sok
  obtain ⟨i0, _, il0⟩ := id st
  walk_at "w"
  refine cst_make T (rs := srows rs s) il0 sok (by omega) (by omega) fun cp lo h3 s3 f3 ic il => ?_
  have il : IsCtr T h3 lo ((3 : Nat) : Int) (lows (srows rs s)) := il
  have ic0 : h3 cp = some (.ins T.C_CounterStair [("upper", .ref lp), ("lower", .ref lo)]) := ic
  walk_at "w"
  refine up_make T (k := 3) (o := 8) (rs := lows (srows rs s)) il lok (by decide) rfl (by omega) (by omega) fun up lt h4 s4 f4 iu it8 => ?_
  have iu0 : h4 up = some (.ins T.C_UpStair [("upper", .ref lo), ("_origin", .int (8 : Nat)), ("lower", .ref lt)]) := iu
  walk_at "w"
  refine lawbits_ok T (by decide) (by decide) fun la sa za => ?_
  walk_at "w"
  refine lawbits_ok T (by decide) (by decide) fun lb sb zb => ?_
  walk_at "w"
  rename Addr => ls
  rename DH => h5
  rename h5 ls = _ => eL
  have s5 : DL.Sub h4 h5 := by walk_at "ws"
  obtain ⟨n2, hn2, ln2⟩ : ∃ n2 : Nat, (1 + if dg ds 25 % 6 = 0 then (1 : Int) else 0).toNat = n2 ∧ n2 ≤ 2 := ⟨_, rfl, by split <;> decide⟩
  rw [hn2]
  have side : ∀ {l : List Int}, Stk l → SideOk 2 l := fun h => ⟨fun x hx => by have := h.1 x hx; omega, h.2⟩
  have hm0 := Int.emod_nonneg (dg ds 21) (b := (s : Nat)) (by omega)
  have hm1 := Int.emod_lt_of_pos (dg ds 21) (b := (s : Nat)) (by omega)
  obtain ⟨c0, hc0⟩ : ∃ c : Cfg, c = ⟨dg ds 21 % (s : Nat), la, dg ds 23 % 2, lb⟩ := ⟨_, rfl⟩
  have oc0 : CfgOk 2 (s : Nat) c0 := by rw [hc0]; exact ⟨hm0, hm1, by show 0 ≤ dg ds 23 % 2; omega, by show dg ds 23 % 2 < 2; omega, side sa, side sb⟩
  have bg0 : c0.big 2 := by rw [hc0]; exact ⟨za, zb⟩
  rw [show D.tup [.int (dg ds 21 % (s : Nat)), .tup (la.map D.int), .int (dg ds 23 % 2), .tup (lb.map D.int)] = c0.d by rw [hc0]; rfl]
  clear hc0
  have st5 := st.sub (s3.trans (s4.trans s5))
  have it5 := it.sub (s2.trans (s3.trans (s4.trans s5)))
  have ic5 := ic.sub (s4.trans s5)
  have il5 := il.sub (s4.trans s5)
  have iu5 := iu.sub s5
  have it85 := it8.sub s5
  clear iu0 ic0 i0 il0
  refine for_u [7, 9, 10, 11] (fun i vs hh => ∃ (c : Cfg) (o9 o10 o11 : Option D), vs = [some c.d, o9, o10, o11] ∧ CfgOk 2 (s : Nat) c ∧ c.big (2 + i)) [some c0.d, none, none, none] rfl ⟨c0, none, none, none, rfl, oc0, bg0⟩ ?_ ?_
  · rintro i vs hh N hi sb ⟨c, o9, o10, o11, rfl, oc, bg⟩ hN
    have bgi := bg
    have bg : c.big 3 := ⟨by have := bg.1; omega, by have := bg.2; omega⟩
    have b10 : c.big 10 := ⟨by have := bg.1; omega, by have := bg.2; omega⟩
    have b200 : c.big 200 := ⟨by have := bg.1; omega, by have := bg.2; omega⟩
    obtain ⟨xp, x1, x2⟩ := id (it5.sub sb)
    obtain ⟨yp, y1, y2⟩ := id (it85.sub sb)
    unfold tapeF at x1 y1
    have gi1 : ∀ (h : DH) (Q : QD), gIx c.d (.int 1) h Q = Q (.tup (c.l.map D.int)) h := fun _ _ => rfl
    have gi3 : ∀ (h : DH) (Q : QD), gIx c.d (.int 3) h Q = Q (.tup (c.r.map D.int)) h := fun _ _ => rfl
    have od := down_ok (rs := rs) oc
    have ol := lowC_ok od
    have bd : c.down.big 4 := ⟨by have := bg.1; show c.l.length ≤ 4; omega, by have := bg.2; have := push_len (x := c.md) (l := c.r); show (push c.md c.r).length ≤ 4; omega⟩
    have m0 : mxU c.down.lowC.cs ≤ 16 := mx_low (by have := val_big od.a.1 bd.1; omega) (by have := val_big od.b.1 bd.2; omega)
    have rok := upRows_ok (k := 3) (o := 8) (by decide) rfl lok
    have oh := upC_ok (k := 3) (o := 8) ol (by decide) rfl
    walk_at "w"
    refine lawdown_ok T (sb _ _ eL) (st5.sub sb) (ic5.sub sb) (iu5.sub sb) oc b10 ?_
    walk_at "w"
    refine lawback_ok T (sb _ _ eL) (st5.sub sb) (ic5.sub sb) (il5.sub sb) (iu5.sub sb) (it85.sub sb) oc b10 ?_
    walk_at "w"
    refine stopped_ok T (it5.sub sb) (by decide) (by decide) (by omega) oc ?_
    cases e : rowAt 2 rs c with
    | none =>
      walk_at "w"
      obtain ⟨qn, hq⟩ := Int.eq_ofNat_of_zero_le oc.st0
      have hq1 := oc.st1
      have er : (srows rs s).getD c.down.st.toNat none = some (false, 1, 9 * (qn : Int) + 1, 9 * (qn : Int) + 5) := by
        show (srows rs s).getD (9 * c.st).toNat none = _
        rw [hq, show (9 * (qn : Int)).toNat = 9 * qn by omega, srows_pop (by omega)]
      obtain ⟨n, hn, hu⟩ := popPath sok od bd er (down_pop oc)
      have sm := low_none oc hrs e
      have om := SC.step_ok sok od (down_pop oc)
      obtain ⟨sl, _⟩ := lowC_none om sm
      obtain ⟨rn, _⟩ := uhome_none (o := 8) (lowC_ok om) (by decide) sl
      have r2 : runZ ((2 * 8 : Nat) : Int) (upRows (lows (srows rs s)) 8 (lows (srows rs s)).length) (n + (2000 - n)) (upC 8 c.down.lowC) = (upC 8 (SC.lowC ⟨9 * c.st + 1 + 4 * c.md, c.l, c.r⟩), n) := by
        rw [run_join, hu.1]; dsimp only; rw [run_stop rn]; rfl
      rw [show n + (2000 - n) = 2000 by omega] at r2
      show W_Tape_run T [_, _, D.int ((2000 : Nat) : Int)] _ _ _
      refine taperunB_ok T (it85.sub sb) (by decide) (by decide) upRows_len2 rok oh (fun i hi => Cfg.big_le (run_big i _ _ upC_big) (by omega)) ?_
      rw [r2]
      walk_at "w"
      rw [decide_eq_true (show (n : Int) < 2000 by omega)]
      walk_at "w"
    | some r =>
      obtain ⟨w, v, t⟩ := r
      walk_at "w"
      rw [gi1]
      walk_at "w"
      rw [gi3]
      walk_at "w"
      by_cases h5 : (5 : Int) < (c.l.length : Nat) + (c.r.length : Nat)
      · walk_at "w"
      · have bg5 : c.big 5 := ⟨by omega, by omega⟩
        walk_at "w"
        refine lawsteps_ok T (sb _ _ eL) (st5.sub sb) (ic5.sub sb) (il5.sub sb) (iu5.sub sb) hrs ok oc bg5 e fun t' hu => ?_
        walk_at "w"
        refine tapestep_ok T (it5.sub sb) (by decide) (by decide) (by omega) ok oc b200 ?_
        have es : stepO 2 rs c = some (stepZ w v t c) := by unfold stepO; rw [e]
        rw [es, show cfgO (some (stepZ w v t c)) = (stepZ w v t c).d from rfl]
        have oc' := step_cfg (by decide) oc (e ▸ row_ok (c := c) ok)
        have bg' := step_big (w := w) (v := v) (t := t) bg
        have bgi' := step_big (w := w) (v := v) (t := t) bgi
        generalize hc' : stepZ w v t c = c' at *
        walk_at "w"
        refine taperunB_ok T (it85.sub sb) (by decide) (by decide) upRows_len2 rok oh (fun i hi => Cfg.big_le (hu.2 i hi) (by decide)) ?_
        rw [hu.1]
        walk_at "w"
        refine lawdown_ok T (sb _ _ eL) (st5.sub sb) (ic5.sub sb) (iu5.sub sb) oc' ⟨by have := bg'.1; omega, by have := bg'.2; omega⟩ ?_
        walk_at "w"
        exact hN [_, _, _, _] _ _ ⟨c', _, _, _, rfl, oc', bgi'⟩ rfl (by walk_at "ws")
  · rintro vs hh sb ⟨c, o9, o10, o11, rfl, oc, bg⟩
    walk_at "w"
end
theorem all_mk {P : Program} {w : World} {K : PySem.W.Frag} {h : Heap} {mg : Str → Option Value} {fa : Addr} (X : K.In h) (G : h.Ns mainGlobals mg) (hfa : mg "law" = some (.ref fa))
    {CTape : Addr}
    {CUpStair : Addr}
    {CCounters : Addr}
    {CCounterStair : Addr}
    {CStacks : Addr}
    {CStackStair : Addr}
    {flaw_draws : Addr} {odlaw_draws anlaw_draws : Option Addr} {sllaw_draws : Array (Option Value)} {oclaw_draws kVlaw_draws dclaw_draws pmlaw_draws cdlaw_draws ctlaw_draws : Value}
    {fis_whole : Addr} {odis_whole anis_whole : Option Addr} {slis_whole : Array (Option Value)} {ocis_whole kVis_whole dcis_whole pmis_whole cdis_whole ctis_whole : Value}
    {fis_number : Addr} {odis_number anis_number : Option Addr} {slis_number : Array (Option Value)} {ocis_number kVis_number dcis_number pmis_number cdis_number ctis_number : Value}
    {fis_row : Addr} {odis_row anis_row : Option Addr} {slis_row : Array (Option Value)} {ocis_row kVis_row dcis_row pmis_row cdis_row ctis_row : Value}
    {fTapedd_initdd : Addr} {odTapedd_initdd anTapedd_initdd : Option Addr} {slTapedd_initdd : Array (Option Value)} {ocTapedd_initdd kVTapedd_initdd dcTapedd_initdd pmTapedd_initdd cdTapedd_initdd ctTapedd_initdd : Value}
    {flaw_tape_rows : Addr} {odlaw_tape_rows anlaw_tape_rows : Option Addr} {sllaw_tape_rows : Array (Option Value)} {oclaw_tape_rows kVlaw_tape_rows dclaw_tape_rows pmlaw_tape_rows cdlaw_tape_rows ctlaw_tape_rows : Value}
    {fis_stack_row : Addr} {odis_stack_row anis_stack_row : Option Addr} {slis_stack_row : Array (Option Value)} {ocis_stack_row kVis_stack_row dcis_stack_row pmis_stack_row cdis_stack_row ctis_stack_row : Value}
    {fStacksdd_initdd : Addr} {odStacksdd_initdd anStacksdd_initdd : Option Addr} {slStacksdd_initdd : Array (Option Value)} {ocStacksdd_initdd kVStacksdd_initdd dcStacksdd_initdd pmStacksdd_initdd cdStacksdd_initdd ctStacksdd_initdd : Value}
    {fTape_row : Addr} {odTape_row anTape_row : Option Addr} {slTape_row : Array (Option Value)} {ocTape_row kVTape_row dcTape_row pmTape_row cdTape_row ctTape_row : Value}
    {frows_after_mark : Addr} {odrows_after_mark anrows_after_mark : Option Addr} {slrows_after_mark : Array (Option Value)} {ocrows_after_mark kVrows_after_mark dcrows_after_mark pmrows_after_mark cdrows_after_mark ctrows_after_mark : Value}
    {fStackStairddall_rows : Addr} {odStackStairddall_rows anStackStairddall_rows : Option Addr} {slStackStairddall_rows : Array (Option Value)} {ocStackStairddall_rows kVStackStairddall_rows dcStackStairddall_rows pmStackStairddall_rows cdStackStairddall_rows ctStackStairddall_rows : Value}
    {fStackStairdd_initdd : Addr} {odStackStairdd_initdd anStackStairdd_initdd : Option Addr} {slStackStairdd_initdd : Array (Option Value)} {ocStackStairdd_initdd kVStackStairdd_initdd dcStackStairdd_initdd pmStackStairdd_initdd cdStackStairdd_initdd ctStackStairdd_initdd : Value}
    {fis_counter_row : Addr} {odis_counter_row anis_counter_row : Option Addr} {slis_counter_row : Array (Option Value)} {ocis_counter_row kVis_counter_row dcis_counter_row pmis_counter_row cdis_counter_row ctis_counter_row : Value}
    {fCountersdd_initdd : Addr} {odCountersdd_initdd anCountersdd_initdd : Option Addr} {slCountersdd_initdd : Array (Option Value)} {ocCountersdd_initdd kVCountersdd_initdd dcCountersdd_initdd pmCountersdd_initdd cdCountersdd_initdd ctCountersdd_initdd : Value}
    {fStacks_table : Addr} {odStacks_table anStacks_table : Option Addr} {slStacks_table : Array (Option Value)} {ocStacks_table kVStacks_table dcStacks_table pmStacks_table cdStacks_table ctStacks_table : Value}
    {frows_of_push : Addr} {odrows_of_push anrows_of_push : Option Addr} {slrows_of_push : Array (Option Value)} {ocrows_of_push kVrows_of_push dcrows_of_push pmrows_of_push cdrows_of_push ctrows_of_push : Value}
    {frows_of_pop : Addr} {odrows_of_pop anrows_of_pop : Option Addr} {slrows_of_pop : Array (Option Value)} {ocrows_of_pop kVrows_of_pop dcrows_of_pop pmrows_of_pop cdrows_of_pop ctrows_of_pop : Value}
    {fCounterStairddall_rows : Addr} {odCounterStairddall_rows anCounterStairddall_rows : Option Addr} {slCounterStairddall_rows : Array (Option Value)} {ocCounterStairddall_rows kVCounterStairddall_rows dcCounterStairddall_rows pmCounterStairddall_rows cdCounterStairddall_rows ctCounterStairddall_rows : Value}
    {fCounterStairdd_initdd : Addr} {odCounterStairdd_initdd anCounterStairdd_initdd : Option Addr} {slCounterStairdd_initdd : Array (Option Value)} {ocCounterStairdd_initdd kVCounterStairdd_initdd dcCounterStairdd_initdd pmCounterStairdd_initdd cdCounterStairdd_initdd ctCounterStairdd_initdd : Value}
    {fCounters_table : Addr} {odCounters_table anCounters_table : Option Addr} {slCounters_table : Array (Option Value)} {ocCounters_table kVCounters_table dcCounters_table pmCounters_table cdCounters_table ctCounters_table : Value}
    {frows_at_home : Addr} {odrows_at_home anrows_at_home : Option Addr} {slrows_at_home : Array (Option Value)} {ocrows_at_home kVrows_at_home dcrows_at_home pmrows_at_home cdrows_at_home ctrows_at_home : Value}
    {frows_of_inc : Addr} {odrows_of_inc anrows_of_inc : Option Addr} {slrows_of_inc : Array (Option Value)} {ocrows_of_inc kVrows_of_inc dcrows_of_inc pmrows_of_inc cdrows_of_inc ctrows_of_inc : Value}
    {frows_of_dec : Addr} {odrows_of_dec anrows_of_dec : Option Addr} {slrows_of_dec : Array (Option Value)} {ocrows_of_dec kVrows_of_dec dcrows_of_dec pmrows_of_dec cdrows_of_dec ctrows_of_dec : Value}
    {fUpStairddall_rows : Addr} {odUpStairddall_rows anUpStairddall_rows : Option Addr} {slUpStairddall_rows : Array (Option Value)} {ocUpStairddall_rows kVUpStairddall_rows dcUpStairddall_rows pmUpStairddall_rows cdUpStairddall_rows ctUpStairddall_rows : Value}
    {fUpStairdd_initdd : Addr} {odUpStairdd_initdd anUpStairdd_initdd : Option Addr} {slUpStairdd_initdd : Array (Option Value)} {ocUpStairdd_initdd kVUpStairdd_initdd dcUpStairdd_initdd pmUpStairdd_initdd cdUpStairdd_initdd ctUpStairdd_initdd : Value}
    {flaw_trimmed : Addr} {odlaw_trimmed anlaw_trimmed : Option Addr} {sllaw_trimmed : Array (Option Value)} {oclaw_trimmed kVlaw_trimmed dclaw_trimmed pmlaw_trimmed cdlaw_trimmed ctlaw_trimmed : Value}
    {flaw_bits : Addr} {odlaw_bits anlaw_bits : Option Addr} {sllaw_bits : Array (Option Value)} {oclaw_bits kVlaw_bits dclaw_bits pmlaw_bits cdlaw_bits ctlaw_bits : Value}
    {fvalue : Addr} {odvalue anvalue : Option Addr} {slvalue : Array (Option Value)} {ocvalue kVvalue dcvalue pmvalue cdvalue ctvalue : Value}
    {fCounterStair_down : Addr} {odCounterStair_down anCounterStair_down : Option Addr} {slCounterStair_down : Array (Option Value)} {ocCounterStair_down kVCounterStair_down dcCounterStair_down pmCounterStair_down cdCounterStair_down ctCounterStair_down : Value}
    {ftrimmed : Addr} {odtrimmed antrimmed : Option Addr} {sltrimmed : Array (Option Value)} {octrimmed kVtrimmed dctrimmed pmtrimmed cdtrimmed cttrimmed : Value}
    {fStackStair_down : Addr} {odStackStair_down anStackStair_down : Option Addr} {slStackStair_down : Array (Option Value)} {ocStackStair_down kVStackStair_down dcStackStair_down pmStackStair_down cdStackStair_down ctStackStair_down : Value}
    {fUpStair_down : Addr} {odUpStair_down anUpStair_down : Option Addr} {slUpStair_down : Array (Option Value)} {ocUpStair_down kVUpStair_down dcUpStair_down pmUpStair_down cdUpStair_down ctUpStair_down : Value}
    {flaw_down : Addr} {odlaw_down anlaw_down : Option Addr} {sllaw_down : Array (Option Value)} {oclaw_down kVlaw_down dclaw_down pmlaw_down cdlaw_down ctlaw_down : Value}
    {fstack_of : Addr} {odstack_of anstack_of : Option Addr} {slstack_of : Array (Option Value)} {ocstack_of kVstack_of dcstack_of pmstack_of cdstack_of ctstack_of : Value}
    {fCounterStair_up : Addr} {odCounterStair_up anCounterStair_up : Option Addr} {slCounterStair_up : Array (Option Value)} {ocCounterStair_up kVCounterStair_up dcCounterStair_up pmCounterStair_up cdCounterStair_up ctCounterStair_up : Value}
    {fStackStair_up : Addr} {odStackStair_up anStackStair_up : Option Addr} {slStackStair_up : Array (Option Value)} {ocStackStair_up kVStackStair_up dcStackStair_up pmStackStair_up cdStackStair_up ctStackStair_up : Value}
    {fare_numbers : Addr} {odare_numbers anare_numbers : Option Addr} {slare_numbers : Array (Option Value)} {ocare_numbers kVare_numbers dcare_numbers pmare_numbers cdare_numbers ctare_numbers : Value}
    {fTapeddis_side : Addr} {odTapeddis_side anTapeddis_side : Option Addr} {slTapeddis_side : Array (Option Value)} {ocTapeddis_side kVTapeddis_side dcTapeddis_side pmTapeddis_side cdTapeddis_side ctTapeddis_side : Value}
    {fTape_is_configuration : Addr} {odTape_is_configuration anTape_is_configuration : Option Addr} {slTape_is_configuration : Array (Option Value)} {ocTape_is_configuration kVTape_is_configuration dcTape_is_configuration pmTape_is_configuration cdTape_is_configuration ctTape_is_configuration : Value}
    {fUpStair_up : Addr} {odUpStair_up anUpStair_up : Option Addr} {slUpStair_up : Array (Option Value)} {ocUpStair_up kVUpStair_up dcUpStair_up pmUpStair_up cdUpStair_up ctUpStair_up : Value}
    {flaw_back : Addr} {odlaw_back anlaw_back : Option Addr} {sllaw_back : Array (Option Value)} {oclaw_back kVlaw_back dclaw_back pmlaw_back cdlaw_back ctlaw_back : Value}
    {fTape_stopped : Addr} {odTape_stopped anTape_stopped : Option Addr} {slTape_stopped : Array (Option Value)} {ocTape_stopped kVTape_stopped dcTape_stopped pmTape_stopped cdTape_stopped ctTape_stopped : Value}
    {fTape_run : Addr} {odTape_run anTape_run : Option Addr} {slTape_run : Array (Option Value)} {ocTape_run kVTape_run dcTape_run pmTape_run cdTape_run ctTape_run : Value}
    {fStackStair_pace : Addr} {odStackStair_pace anStackStair_pace : Option Addr} {slStackStair_pace : Array (Option Value)} {ocStackStair_pace kVStackStair_pace dcStackStair_pace pmStackStair_pace cdStackStair_pace ctStackStair_pace : Value}
    {fStacks_row : Addr} {odStacks_row anStacks_row : Option Addr} {slStacks_row : Array (Option Value)} {ocStacks_row kVStacks_row dcStacks_row pmStacks_row cdStacks_row ctStacks_row : Value}
    {fCounterStair_pace : Addr} {odCounterStair_pace anCounterStair_pace : Option Addr} {slCounterStair_pace : Array (Option Value)} {ocCounterStair_pace kVCounterStair_pace dcCounterStair_pace pmCounterStair_pace cdCounterStair_pace ctCounterStair_pace : Value}
    {fCounters_row : Addr} {odCounters_row anCounters_row : Option Addr} {slCounters_row : Array (Option Value)} {ocCounters_row kVCounters_row dcCounters_row pmCounters_row cdCounters_row ctCounters_row : Value}
    {fUpStair_pace : Addr} {odUpStair_pace anUpStair_pace : Option Addr} {slUpStair_pace : Array (Option Value)} {ocUpStair_pace kVUpStair_pace dcUpStair_pace pmUpStair_pace cdUpStair_pace ctUpStair_pace : Value}
    {fCounters_run : Addr} {odCounters_run anCounters_run : Option Addr} {slCounters_run : Array (Option Value)} {ocCounters_run kVCounters_run dcCounters_run pmCounters_run cdCounters_run ctCounters_run : Value}
    {fCounters_step : Addr} {odCounters_step anCounters_step : Option Addr} {slCounters_step : Array (Option Value)} {ocCounters_step kVCounters_step dcCounters_step pmCounters_step cdCounters_step ctCounters_step : Value}
    {fStacks_run : Addr} {odStacks_run anStacks_run : Option Addr} {slStacks_run : Array (Option Value)} {ocStacks_run kVStacks_run dcStacks_run pmStacks_run cdStacks_run ctStacks_run : Value}
    {fStacks_step : Addr} {odStacks_step anStacks_step : Option Addr} {slStacks_step : Array (Option Value)} {ocStacks_step kVStacks_step dcStacks_step pmStacks_step cdStacks_step ctStacks_step : Value}
    {flaw_steps : Addr} {odlaw_steps anlaw_steps : Option Addr} {sllaw_steps : Array (Option Value)} {oclaw_steps kVlaw_steps dclaw_steps pmlaw_steps cdlaw_steps ctlaw_steps : Value}
    {fTape_step : Addr} {odTape_step anTape_step : Option Addr} {slTape_step : Array (Option Value)} {ocTape_step kVTape_step dcTape_step pmTape_step cdTape_step ctTape_step : Value}
    {flaw : Addr} {odlaw anlaw : Option Addr} {sllaw : Array (Option Value)} {oclaw kVlaw dclaw pmlaw cdlaw ctlaw : Value}
    {tCOUNTERS : Tok}
    {tFEWEST_MARKS : Tok}
    {tMARKS : Tok}
    {tMOST_COUNTERS : Tok}
    {tMOST_MARKS : Tok}
    {tMOST_STATES_counters : Tok}
    {tMOST_STATES_stacks : Tok}
    {tMOST_STATES_tape : Tok}
    {tMOST_UPPER_COUNTERS : Tok}
    {tMOST_UPPER_STATES_stackstair : Tok}
    {tMOST_UPPER_STATES_upstair : Tok}
    {tSPARE : Tok}
    {tSTATES_FOR_EACH_counterstair : Tok}
    {tSTATES_FOR_EACH_stackstair : Tok}
    {tSTATES_FOR_EACH_upstair : Tok}
    {XBadMachine : Addr}
    (acTape : PySem.W.nsIn K mainGlobals "Tape" = some (some (.ref CTape)))
    (pgTape : PySem.W.plainGet K CTape Str.empty = true)
    (hdTape : PySem.W.hasDictIn K CTape = true)
    (poTape : PySem.W.plainOver K CTape = true)
    (saTape : PySem.W.findIn K (.ref CTape) "__setattr__" = some (some (.builtin "object.__setattr__")))
    (mkTape : PySem.W.makesIn K CTape = true)
    (kcTape : PySem.W.keepIn K (.ref CTape) = true)
    (naTapemarks : PySem.W.findIn K (.ref CTape) "marks" = some none)
    (naTapestates : PySem.W.findIn K (.ref CTape) "states" = some none)
    (naTape_rows : PySem.W.findIn K (.ref CTape) "_rows" = some none)
    (acUpStair : PySem.W.nsIn K mainGlobals "UpStair" = some (some (.ref CUpStair)))
    (pgUpStair : PySem.W.plainGet K CUpStair Str.empty = true)
    (hdUpStair : PySem.W.hasDictIn K CUpStair = true)
    (poUpStair : PySem.W.plainOver K CUpStair = true)
    (saUpStair : PySem.W.findIn K (.ref CUpStair) "__setattr__" = some (some (.builtin "object.__setattr__")))
    (mkUpStair : PySem.W.makesIn K CUpStair = true)
    (kcUpStair : PySem.W.keepIn K (.ref CUpStair) = true)
    (naUpStairupper : PySem.W.findIn K (.ref CUpStair) "upper" = some none)
    (naUpStair_origin : PySem.W.findIn K (.ref CUpStair) "_origin" = some none)
    (naUpStairlower : PySem.W.findIn K (.ref CUpStair) "lower" = some none)
    (acCounters : PySem.W.nsIn K mainGlobals "Counters" = some (some (.ref CCounters)))
    (pgCounters : PySem.W.plainGet K CCounters Str.empty = true)
    (hdCounters : PySem.W.hasDictIn K CCounters = true)
    (poCounters : PySem.W.plainOver K CCounters = true)
    (saCounters : PySem.W.findIn K (.ref CCounters) "__setattr__" = some (some (.builtin "object.__setattr__")))
    (mkCounters : PySem.W.makesIn K CCounters = true)
    (kcCounters : PySem.W.keepIn K (.ref CCounters) = true)
    (naCounterscount : PySem.W.findIn K (.ref CCounters) "count" = some none)
    (naCountersstates : PySem.W.findIn K (.ref CCounters) "states" = some none)
    (naCounters_rows : PySem.W.findIn K (.ref CCounters) "_rows" = some none)
    (acCounterStair : PySem.W.nsIn K mainGlobals "CounterStair" = some (some (.ref CCounterStair)))
    (pgCounterStair : PySem.W.plainGet K CCounterStair Str.empty = true)
    (hdCounterStair : PySem.W.hasDictIn K CCounterStair = true)
    (poCounterStair : PySem.W.plainOver K CCounterStair = true)
    (saCounterStair : PySem.W.findIn K (.ref CCounterStair) "__setattr__" = some (some (.builtin "object.__setattr__")))
    (mkCounterStair : PySem.W.makesIn K CCounterStair = true)
    (kcCounterStair : PySem.W.keepIn K (.ref CCounterStair) = true)
    (naCounterStairupper : PySem.W.findIn K (.ref CCounterStair) "upper" = some none)
    (naCounterStairlower : PySem.W.findIn K (.ref CCounterStair) "lower" = some none)
    (acStacks : PySem.W.nsIn K mainGlobals "Stacks" = some (some (.ref CStacks)))
    (pgStacks : PySem.W.plainGet K CStacks Str.empty = true)
    (hdStacks : PySem.W.hasDictIn K CStacks = true)
    (poStacks : PySem.W.plainOver K CStacks = true)
    (saStacks : PySem.W.findIn K (.ref CStacks) "__setattr__" = some (some (.builtin "object.__setattr__")))
    (mkStacks : PySem.W.makesIn K CStacks = true)
    (kcStacks : PySem.W.keepIn K (.ref CStacks) = true)
    (naStacksstates : PySem.W.findIn K (.ref CStacks) "states" = some none)
    (naStacks_rows : PySem.W.findIn K (.ref CStacks) "_rows" = some none)
    (acStackStair : PySem.W.nsIn K mainGlobals "StackStair" = some (some (.ref CStackStair)))
    (pgStackStair : PySem.W.plainGet K CStackStair Str.empty = true)
    (hdStackStair : PySem.W.hasDictIn K CStackStair = true)
    (poStackStair : PySem.W.plainOver K CStackStair = true)
    (saStackStair : PySem.W.findIn K (.ref CStackStair) "__setattr__" = some (some (.builtin "object.__setattr__")))
    (mkStackStair : PySem.W.makesIn K CStackStair = true)
    (kcStackStair : PySem.W.keepIn K (.ref CStackStair) = true)
    (naStackStairupper : PySem.W.findIn K (.ref CStackStair) "upper" = some none)
    (naStackStairlower : PySem.W.findIn K (.ref CStackStair) "lower" = some none)
    (awlaw_draws : PySem.W.nsIn K mainGlobals "_law_draws" = some (some (.ref flaw_draws)))
    (lllaw_draws : K.lookup flaw_draws = some ⟨oclaw_draws, odlaw_draws, .func (PySem.W.fnOf "_law_draws" "_law_draws" (defArgs s_law_draws) (defBody s_law_draws) (defScope s_law_draws) .none kVlaw_draws dclaw_draws pmlaw_draws anlaw_draws cdlaw_draws ctlaw_draws), sllaw_draws⟩)
    (cclaw_draws : PySem.W.codeIn K cdlaw_draws "_law_draws" = true)
    (kklaw_draws : PySem.W.keepIn K (.ref flaw_draws) = true)
    (awis_whole : PySem.W.nsIn K mainGlobals "is_whole" = some (some (.ref fis_whole)))
    (llis_whole : K.lookup fis_whole = some ⟨ocis_whole, odis_whole, .func (PySem.W.fnOf "is_whole" "is_whole" (defArgs s_is_whole) (defBody s_is_whole) (defScope s_is_whole) .none kVis_whole dcis_whole pmis_whole anis_whole cdis_whole ctis_whole), slis_whole⟩)
    (ccis_whole : PySem.W.codeIn K cdis_whole "is_whole" = true)
    (kkis_whole : PySem.W.keepIn K (.ref fis_whole) = true)
    (awis_number : PySem.W.nsIn K mainGlobals "is_number" = some (some (.ref fis_number)))
    (llis_number : K.lookup fis_number = some ⟨ocis_number, odis_number, .func (PySem.W.fnOf "is_number" "is_number" (defArgs s_is_number) (defBody s_is_number) (defScope s_is_number) .none kVis_number dcis_number pmis_number anis_number cdis_number ctis_number), slis_number⟩)
    (ccis_number : PySem.W.codeIn K cdis_number "is_number" = true)
    (kkis_number : PySem.W.keepIn K (.ref fis_number) = true)
    (awis_row : PySem.W.nsIn K mainGlobals "is_row" = some (some (.ref fis_row)))
    (llis_row : K.lookup fis_row = some ⟨ocis_row, odis_row, .func (PySem.W.fnOf "is_row" "is_row" (defArgs s_is_row) (defBody s_is_row) (defScope s_is_row) .none kVis_row dcis_row pmis_row anis_row cdis_row ctis_row), slis_row⟩)
    (ccis_row : PySem.W.codeIn K cdis_row "is_row" = true)
    (kkis_row : PySem.W.keepIn K (.ref fis_row) = true)
    (awTapedd_initdd : PySem.W.findIn K (.ref CTape) "__init__" = some (some (.ref fTapedd_initdd)))
    (iiTapedd_initdd : PySem.W.isFn K (.ref fTapedd_initdd) = true)
    (llTapedd_initdd : K.lookup fTapedd_initdd = some ⟨ocTapedd_initdd, odTapedd_initdd, .func (PySem.W.fnOf "__init__" "Tape.__init__" (defArgs s_Tapedd_initdd) (defBody s_Tapedd_initdd) (defScope s_Tapedd_initdd) .none kVTapedd_initdd dcTapedd_initdd pmTapedd_initdd anTapedd_initdd cdTapedd_initdd ctTapedd_initdd), slTapedd_initdd⟩)
    (ccTapedd_initdd : PySem.W.codeIn K cdTapedd_initdd "Tape.__init__" = true)
    (kkTapedd_initdd : PySem.W.keepIn K (.ref fTapedd_initdd) = true)
    (awlaw_tape_rows : PySem.W.nsIn K mainGlobals "_law_tape_rows" = some (some (.ref flaw_tape_rows)))
    (lllaw_tape_rows : K.lookup flaw_tape_rows = some ⟨oclaw_tape_rows, odlaw_tape_rows, .func (PySem.W.fnOf "_law_tape_rows" "_law_tape_rows" (defArgs s_law_tape_rows) (defBody s_law_tape_rows) (defScope s_law_tape_rows) .none kVlaw_tape_rows dclaw_tape_rows pmlaw_tape_rows anlaw_tape_rows cdlaw_tape_rows ctlaw_tape_rows), sllaw_tape_rows⟩)
    (cclaw_tape_rows : PySem.W.codeIn K cdlaw_tape_rows "_law_tape_rows" = true)
    (kklaw_tape_rows : PySem.W.keepIn K (.ref flaw_tape_rows) = true)
    (awis_stack_row : PySem.W.nsIn K mainGlobals "is_stack_row" = some (some (.ref fis_stack_row)))
    (llis_stack_row : K.lookup fis_stack_row = some ⟨ocis_stack_row, odis_stack_row, .func (PySem.W.fnOf "is_stack_row" "is_stack_row" (defArgs s_is_stack_row) (defBody s_is_stack_row) (defScope s_is_stack_row) .none kVis_stack_row dcis_stack_row pmis_stack_row anis_stack_row cdis_stack_row ctis_stack_row), slis_stack_row⟩)
    (ccis_stack_row : PySem.W.codeIn K cdis_stack_row "is_stack_row" = true)
    (kkis_stack_row : PySem.W.keepIn K (.ref fis_stack_row) = true)
    (awStacksdd_initdd : PySem.W.findIn K (.ref CStacks) "__init__" = some (some (.ref fStacksdd_initdd)))
    (iiStacksdd_initdd : PySem.W.isFn K (.ref fStacksdd_initdd) = true)
    (llStacksdd_initdd : K.lookup fStacksdd_initdd = some ⟨ocStacksdd_initdd, odStacksdd_initdd, .func (PySem.W.fnOf "__init__" "Stacks.__init__" (defArgs s_Stacksdd_initdd) (defBody s_Stacksdd_initdd) (defScope s_Stacksdd_initdd) .none kVStacksdd_initdd dcStacksdd_initdd pmStacksdd_initdd anStacksdd_initdd cdStacksdd_initdd ctStacksdd_initdd), slStacksdd_initdd⟩)
    (ccStacksdd_initdd : PySem.W.codeIn K cdStacksdd_initdd "Stacks.__init__" = true)
    (kkStacksdd_initdd : PySem.W.keepIn K (.ref fStacksdd_initdd) = true)
    (awTape_row : PySem.W.findIn K (.ref CTape) "row" = some (some (.ref fTape_row)))
    (iiTape_row : PySem.W.isFn K (.ref fTape_row) = true)
    (llTape_row : K.lookup fTape_row = some ⟨ocTape_row, odTape_row, .func (PySem.W.fnOf "row" "Tape.row" (defArgs s_Tape_row) (defBody s_Tape_row) (defScope s_Tape_row) .none kVTape_row dcTape_row pmTape_row anTape_row cdTape_row ctTape_row), slTape_row⟩)
    (ccTape_row : PySem.W.codeIn K cdTape_row "Tape.row" = true)
    (kkTape_row : PySem.W.keepIn K (.ref fTape_row) = true)
    (awrows_after_mark : PySem.W.nsIn K mainGlobals "rows_after_mark" = some (some (.ref frows_after_mark)))
    (llrows_after_mark : K.lookup frows_after_mark = some ⟨ocrows_after_mark, odrows_after_mark, .func (PySem.W.fnOf "rows_after_mark" "rows_after_mark" (defArgs s_rows_after_mark) (defBody s_rows_after_mark) (defScope s_rows_after_mark) .none kVrows_after_mark dcrows_after_mark pmrows_after_mark anrows_after_mark cdrows_after_mark ctrows_after_mark), slrows_after_mark⟩)
    (ccrows_after_mark : PySem.W.codeIn K cdrows_after_mark "rows_after_mark" = true)
    (kkrows_after_mark : PySem.W.keepIn K (.ref frows_after_mark) = true)
    (awStackStairddall_rows : PySem.W.findIn K (.ref CStackStair) "_all_rows" = some (some (.ref fStackStairddall_rows)))
    (iiStackStairddall_rows : PySem.W.isFn K (.ref fStackStairddall_rows) = true)
    (llStackStairddall_rows : K.lookup fStackStairddall_rows = some ⟨ocStackStairddall_rows, odStackStairddall_rows, .func (PySem.W.fnOf "_all_rows" "StackStair._all_rows" (defArgs s_StackStairddall_rows) (defBody s_StackStairddall_rows) (defScope s_StackStairddall_rows) .none kVStackStairddall_rows dcStackStairddall_rows pmStackStairddall_rows anStackStairddall_rows cdStackStairddall_rows ctStackStairddall_rows), slStackStairddall_rows⟩)
    (ccStackStairddall_rows : PySem.W.codeIn K cdStackStairddall_rows "StackStair._all_rows" = true)
    (kkStackStairddall_rows : PySem.W.keepIn K (.ref fStackStairddall_rows) = true)
    (awStackStairdd_initdd : PySem.W.findIn K (.ref CStackStair) "__init__" = some (some (.ref fStackStairdd_initdd)))
    (iiStackStairdd_initdd : PySem.W.isFn K (.ref fStackStairdd_initdd) = true)
    (llStackStairdd_initdd : K.lookup fStackStairdd_initdd = some ⟨ocStackStairdd_initdd, odStackStairdd_initdd, .func (PySem.W.fnOf "__init__" "StackStair.__init__" (defArgs s_StackStairdd_initdd) (defBody s_StackStairdd_initdd) (defScope s_StackStairdd_initdd) .none kVStackStairdd_initdd dcStackStairdd_initdd pmStackStairdd_initdd anStackStairdd_initdd cdStackStairdd_initdd ctStackStairdd_initdd), slStackStairdd_initdd⟩)
    (ccStackStairdd_initdd : PySem.W.codeIn K cdStackStairdd_initdd "StackStair.__init__" = true)
    (kkStackStairdd_initdd : PySem.W.keepIn K (.ref fStackStairdd_initdd) = true)
    (awis_counter_row : PySem.W.nsIn K mainGlobals "is_counter_row" = some (some (.ref fis_counter_row)))
    (llis_counter_row : K.lookup fis_counter_row = some ⟨ocis_counter_row, odis_counter_row, .func (PySem.W.fnOf "is_counter_row" "is_counter_row" (defArgs s_is_counter_row) (defBody s_is_counter_row) (defScope s_is_counter_row) .none kVis_counter_row dcis_counter_row pmis_counter_row anis_counter_row cdis_counter_row ctis_counter_row), slis_counter_row⟩)
    (ccis_counter_row : PySem.W.codeIn K cdis_counter_row "is_counter_row" = true)
    (kkis_counter_row : PySem.W.keepIn K (.ref fis_counter_row) = true)
    (awCountersdd_initdd : PySem.W.findIn K (.ref CCounters) "__init__" = some (some (.ref fCountersdd_initdd)))
    (iiCountersdd_initdd : PySem.W.isFn K (.ref fCountersdd_initdd) = true)
    (llCountersdd_initdd : K.lookup fCountersdd_initdd = some ⟨ocCountersdd_initdd, odCountersdd_initdd, .func (PySem.W.fnOf "__init__" "Counters.__init__" (defArgs s_Countersdd_initdd) (defBody s_Countersdd_initdd) (defScope s_Countersdd_initdd) .none kVCountersdd_initdd dcCountersdd_initdd pmCountersdd_initdd anCountersdd_initdd cdCountersdd_initdd ctCountersdd_initdd), slCountersdd_initdd⟩)
    (ccCountersdd_initdd : PySem.W.codeIn K cdCountersdd_initdd "Counters.__init__" = true)
    (kkCountersdd_initdd : PySem.W.keepIn K (.ref fCountersdd_initdd) = true)
    (awStacks_table : PySem.W.findIn K (.ref CStacks) "table" = some (some (.ref fStacks_table)))
    (iiStacks_table : PySem.W.isFn K (.ref fStacks_table) = true)
    (llStacks_table : K.lookup fStacks_table = some ⟨ocStacks_table, odStacks_table, .func (PySem.W.fnOf "table" "Stacks.table" (defArgs s_Stacks_table) (defBody s_Stacks_table) (defScope s_Stacks_table) .none kVStacks_table dcStacks_table pmStacks_table anStacks_table cdStacks_table ctStacks_table), slStacks_table⟩)
    (ccStacks_table : PySem.W.codeIn K cdStacks_table "Stacks.table" = true)
    (kkStacks_table : PySem.W.keepIn K (.ref fStacks_table) = true)
    (awrows_of_push : PySem.W.nsIn K mainGlobals "rows_of_push" = some (some (.ref frows_of_push)))
    (llrows_of_push : K.lookup frows_of_push = some ⟨ocrows_of_push, odrows_of_push, .func (PySem.W.fnOf "rows_of_push" "rows_of_push" (defArgs s_rows_of_push) (defBody s_rows_of_push) (defScope s_rows_of_push) .none kVrows_of_push dcrows_of_push pmrows_of_push anrows_of_push cdrows_of_push ctrows_of_push), slrows_of_push⟩)
    (ccrows_of_push : PySem.W.codeIn K cdrows_of_push "rows_of_push" = true)
    (kkrows_of_push : PySem.W.keepIn K (.ref frows_of_push) = true)
    (awrows_of_pop : PySem.W.nsIn K mainGlobals "rows_of_pop" = some (some (.ref frows_of_pop)))
    (llrows_of_pop : K.lookup frows_of_pop = some ⟨ocrows_of_pop, odrows_of_pop, .func (PySem.W.fnOf "rows_of_pop" "rows_of_pop" (defArgs s_rows_of_pop) (defBody s_rows_of_pop) (defScope s_rows_of_pop) .none kVrows_of_pop dcrows_of_pop pmrows_of_pop anrows_of_pop cdrows_of_pop ctrows_of_pop), slrows_of_pop⟩)
    (ccrows_of_pop : PySem.W.codeIn K cdrows_of_pop "rows_of_pop" = true)
    (kkrows_of_pop : PySem.W.keepIn K (.ref frows_of_pop) = true)
    (awCounterStairddall_rows : PySem.W.findIn K (.ref CCounterStair) "_all_rows" = some (some (.ref fCounterStairddall_rows)))
    (iiCounterStairddall_rows : PySem.W.isFn K (.ref fCounterStairddall_rows) = true)
    (llCounterStairddall_rows : K.lookup fCounterStairddall_rows = some ⟨ocCounterStairddall_rows, odCounterStairddall_rows, .func (PySem.W.fnOf "_all_rows" "CounterStair._all_rows" (defArgs s_CounterStairddall_rows) (defBody s_CounterStairddall_rows) (defScope s_CounterStairddall_rows) .none kVCounterStairddall_rows dcCounterStairddall_rows pmCounterStairddall_rows anCounterStairddall_rows cdCounterStairddall_rows ctCounterStairddall_rows), slCounterStairddall_rows⟩)
    (ccCounterStairddall_rows : PySem.W.codeIn K cdCounterStairddall_rows "CounterStair._all_rows" = true)
    (kkCounterStairddall_rows : PySem.W.keepIn K (.ref fCounterStairddall_rows) = true)
    (awCounterStairdd_initdd : PySem.W.findIn K (.ref CCounterStair) "__init__" = some (some (.ref fCounterStairdd_initdd)))
    (iiCounterStairdd_initdd : PySem.W.isFn K (.ref fCounterStairdd_initdd) = true)
    (llCounterStairdd_initdd : K.lookup fCounterStairdd_initdd = some ⟨ocCounterStairdd_initdd, odCounterStairdd_initdd, .func (PySem.W.fnOf "__init__" "CounterStair.__init__" (defArgs s_CounterStairdd_initdd) (defBody s_CounterStairdd_initdd) (defScope s_CounterStairdd_initdd) .none kVCounterStairdd_initdd dcCounterStairdd_initdd pmCounterStairdd_initdd anCounterStairdd_initdd cdCounterStairdd_initdd ctCounterStairdd_initdd), slCounterStairdd_initdd⟩)
    (ccCounterStairdd_initdd : PySem.W.codeIn K cdCounterStairdd_initdd "CounterStair.__init__" = true)
    (kkCounterStairdd_initdd : PySem.W.keepIn K (.ref fCounterStairdd_initdd) = true)
    (awCounters_table : PySem.W.findIn K (.ref CCounters) "table" = some (some (.ref fCounters_table)))
    (iiCounters_table : PySem.W.isFn K (.ref fCounters_table) = true)
    (llCounters_table : K.lookup fCounters_table = some ⟨ocCounters_table, odCounters_table, .func (PySem.W.fnOf "table" "Counters.table" (defArgs s_Counters_table) (defBody s_Counters_table) (defScope s_Counters_table) .none kVCounters_table dcCounters_table pmCounters_table anCounters_table cdCounters_table ctCounters_table), slCounters_table⟩)
    (ccCounters_table : PySem.W.codeIn K cdCounters_table "Counters.table" = true)
    (kkCounters_table : PySem.W.keepIn K (.ref fCounters_table) = true)
    (awrows_at_home : PySem.W.nsIn K mainGlobals "rows_at_home" = some (some (.ref frows_at_home)))
    (llrows_at_home : K.lookup frows_at_home = some ⟨ocrows_at_home, odrows_at_home, .func (PySem.W.fnOf "rows_at_home" "rows_at_home" (defArgs s_rows_at_home) (defBody s_rows_at_home) (defScope s_rows_at_home) .none kVrows_at_home dcrows_at_home pmrows_at_home anrows_at_home cdrows_at_home ctrows_at_home), slrows_at_home⟩)
    (ccrows_at_home : PySem.W.codeIn K cdrows_at_home "rows_at_home" = true)
    (kkrows_at_home : PySem.W.keepIn K (.ref frows_at_home) = true)
    (awrows_of_inc : PySem.W.nsIn K mainGlobals "rows_of_inc" = some (some (.ref frows_of_inc)))
    (llrows_of_inc : K.lookup frows_of_inc = some ⟨ocrows_of_inc, odrows_of_inc, .func (PySem.W.fnOf "rows_of_inc" "rows_of_inc" (defArgs s_rows_of_inc) (defBody s_rows_of_inc) (defScope s_rows_of_inc) .none kVrows_of_inc dcrows_of_inc pmrows_of_inc anrows_of_inc cdrows_of_inc ctrows_of_inc), slrows_of_inc⟩)
    (ccrows_of_inc : PySem.W.codeIn K cdrows_of_inc "rows_of_inc" = true)
    (kkrows_of_inc : PySem.W.keepIn K (.ref frows_of_inc) = true)
    (awrows_of_dec : PySem.W.nsIn K mainGlobals "rows_of_dec" = some (some (.ref frows_of_dec)))
    (llrows_of_dec : K.lookup frows_of_dec = some ⟨ocrows_of_dec, odrows_of_dec, .func (PySem.W.fnOf "rows_of_dec" "rows_of_dec" (defArgs s_rows_of_dec) (defBody s_rows_of_dec) (defScope s_rows_of_dec) .none kVrows_of_dec dcrows_of_dec pmrows_of_dec anrows_of_dec cdrows_of_dec ctrows_of_dec), slrows_of_dec⟩)
    (ccrows_of_dec : PySem.W.codeIn K cdrows_of_dec "rows_of_dec" = true)
    (kkrows_of_dec : PySem.W.keepIn K (.ref frows_of_dec) = true)
    (awUpStairddall_rows : PySem.W.findIn K (.ref CUpStair) "_all_rows" = some (some (.ref fUpStairddall_rows)))
    (iiUpStairddall_rows : PySem.W.isFn K (.ref fUpStairddall_rows) = true)
    (llUpStairddall_rows : K.lookup fUpStairddall_rows = some ⟨ocUpStairddall_rows, odUpStairddall_rows, .func (PySem.W.fnOf "_all_rows" "UpStair._all_rows" (defArgs s_UpStairddall_rows) (defBody s_UpStairddall_rows) (defScope s_UpStairddall_rows) .none kVUpStairddall_rows dcUpStairddall_rows pmUpStairddall_rows anUpStairddall_rows cdUpStairddall_rows ctUpStairddall_rows), slUpStairddall_rows⟩)
    (ccUpStairddall_rows : PySem.W.codeIn K cdUpStairddall_rows "UpStair._all_rows" = true)
    (kkUpStairddall_rows : PySem.W.keepIn K (.ref fUpStairddall_rows) = true)
    (awUpStairdd_initdd : PySem.W.findIn K (.ref CUpStair) "__init__" = some (some (.ref fUpStairdd_initdd)))
    (iiUpStairdd_initdd : PySem.W.isFn K (.ref fUpStairdd_initdd) = true)
    (llUpStairdd_initdd : K.lookup fUpStairdd_initdd = some ⟨ocUpStairdd_initdd, odUpStairdd_initdd, .func (PySem.W.fnOf "__init__" "UpStair.__init__" (defArgs s_UpStairdd_initdd) (defBody s_UpStairdd_initdd) (defScope s_UpStairdd_initdd) .none kVUpStairdd_initdd dcUpStairdd_initdd pmUpStairdd_initdd anUpStairdd_initdd cdUpStairdd_initdd ctUpStairdd_initdd), slUpStairdd_initdd⟩)
    (ccUpStairdd_initdd : PySem.W.codeIn K cdUpStairdd_initdd "UpStair.__init__" = true)
    (kkUpStairdd_initdd : PySem.W.keepIn K (.ref fUpStairdd_initdd) = true)
    (awlaw_trimmed : PySem.W.nsIn K mainGlobals "_law_trimmed" = some (some (.ref flaw_trimmed)))
    (lllaw_trimmed : K.lookup flaw_trimmed = some ⟨oclaw_trimmed, odlaw_trimmed, .func (PySem.W.fnOf "_law_trimmed" "_law_trimmed" (defArgs s_law_trimmed) (defBody s_law_trimmed) (defScope s_law_trimmed) .none kVlaw_trimmed dclaw_trimmed pmlaw_trimmed anlaw_trimmed cdlaw_trimmed ctlaw_trimmed), sllaw_trimmed⟩)
    (cclaw_trimmed : PySem.W.codeIn K cdlaw_trimmed "_law_trimmed" = true)
    (kklaw_trimmed : PySem.W.keepIn K (.ref flaw_trimmed) = true)
    (awlaw_bits : PySem.W.nsIn K mainGlobals "_law_bits" = some (some (.ref flaw_bits)))
    (lllaw_bits : K.lookup flaw_bits = some ⟨oclaw_bits, odlaw_bits, .func (PySem.W.fnOf "_law_bits" "_law_bits" (defArgs s_law_bits) (defBody s_law_bits) (defScope s_law_bits) .none kVlaw_bits dclaw_bits pmlaw_bits anlaw_bits cdlaw_bits ctlaw_bits), sllaw_bits⟩)
    (cclaw_bits : PySem.W.codeIn K cdlaw_bits "_law_bits" = true)
    (kklaw_bits : PySem.W.keepIn K (.ref flaw_bits) = true)
    (awvalue : PySem.W.nsIn K mainGlobals "value" = some (some (.ref fvalue)))
    (llvalue : K.lookup fvalue = some ⟨ocvalue, odvalue, .func (PySem.W.fnOf "value" "value" (defArgs s_value) (defBody s_value) (defScope s_value) .none kVvalue dcvalue pmvalue anvalue cdvalue ctvalue), slvalue⟩)
    (ccvalue : PySem.W.codeIn K cdvalue "value" = true)
    (kkvalue : PySem.W.keepIn K (.ref fvalue) = true)
    (awCounterStair_down : PySem.W.findIn K (.ref CCounterStair) "down" = some (some (.ref fCounterStair_down)))
    (iiCounterStair_down : PySem.W.isFn K (.ref fCounterStair_down) = true)
    (llCounterStair_down : K.lookup fCounterStair_down = some ⟨ocCounterStair_down, odCounterStair_down, .func (PySem.W.fnOf "down" "CounterStair.down" (defArgs s_CounterStair_down) (defBody s_CounterStair_down) (defScope s_CounterStair_down) .none kVCounterStair_down dcCounterStair_down pmCounterStair_down anCounterStair_down cdCounterStair_down ctCounterStair_down), slCounterStair_down⟩)
    (ccCounterStair_down : PySem.W.codeIn K cdCounterStair_down "CounterStair.down" = true)
    (kkCounterStair_down : PySem.W.keepIn K (.ref fCounterStair_down) = true)
    (awtrimmed : PySem.W.nsIn K mainGlobals "trimmed" = some (some (.ref ftrimmed)))
    (lltrimmed : K.lookup ftrimmed = some ⟨octrimmed, odtrimmed, .func (PySem.W.fnOf "trimmed" "trimmed" (defArgs s_trimmed) (defBody s_trimmed) (defScope s_trimmed) .none kVtrimmed dctrimmed pmtrimmed antrimmed cdtrimmed cttrimmed), sltrimmed⟩)
    (cctrimmed : PySem.W.codeIn K cdtrimmed "trimmed" = true)
    (kktrimmed : PySem.W.keepIn K (.ref ftrimmed) = true)
    (awStackStair_down : PySem.W.findIn K (.ref CStackStair) "down" = some (some (.ref fStackStair_down)))
    (iiStackStair_down : PySem.W.isFn K (.ref fStackStair_down) = true)
    (llStackStair_down : K.lookup fStackStair_down = some ⟨ocStackStair_down, odStackStair_down, .func (PySem.W.fnOf "down" "StackStair.down" (defArgs s_StackStair_down) (defBody s_StackStair_down) (defScope s_StackStair_down) .none kVStackStair_down dcStackStair_down pmStackStair_down anStackStair_down cdStackStair_down ctStackStair_down), slStackStair_down⟩)
    (ccStackStair_down : PySem.W.codeIn K cdStackStair_down "StackStair.down" = true)
    (kkStackStair_down : PySem.W.keepIn K (.ref fStackStair_down) = true)
    (awUpStair_down : PySem.W.findIn K (.ref CUpStair) "down" = some (some (.ref fUpStair_down)))
    (iiUpStair_down : PySem.W.isFn K (.ref fUpStair_down) = true)
    (llUpStair_down : K.lookup fUpStair_down = some ⟨ocUpStair_down, odUpStair_down, .func (PySem.W.fnOf "down" "UpStair.down" (defArgs s_UpStair_down) (defBody s_UpStair_down) (defScope s_UpStair_down) .none kVUpStair_down dcUpStair_down pmUpStair_down anUpStair_down cdUpStair_down ctUpStair_down), slUpStair_down⟩)
    (ccUpStair_down : PySem.W.codeIn K cdUpStair_down "UpStair.down" = true)
    (kkUpStair_down : PySem.W.keepIn K (.ref fUpStair_down) = true)
    (awlaw_down : PySem.W.nsIn K mainGlobals "_law_down" = some (some (.ref flaw_down)))
    (lllaw_down : K.lookup flaw_down = some ⟨oclaw_down, odlaw_down, .func (PySem.W.fnOf "_law_down" "_law_down" (defArgs s_law_down) (defBody s_law_down) (defScope s_law_down) .none kVlaw_down dclaw_down pmlaw_down anlaw_down cdlaw_down ctlaw_down), sllaw_down⟩)
    (cclaw_down : PySem.W.codeIn K cdlaw_down "_law_down" = true)
    (kklaw_down : PySem.W.keepIn K (.ref flaw_down) = true)
    (awstack_of : PySem.W.nsIn K mainGlobals "stack_of" = some (some (.ref fstack_of)))
    (llstack_of : K.lookup fstack_of = some ⟨ocstack_of, odstack_of, .func (PySem.W.fnOf "stack_of" "stack_of" (defArgs s_stack_of) (defBody s_stack_of) (defScope s_stack_of) .none kVstack_of dcstack_of pmstack_of anstack_of cdstack_of ctstack_of), slstack_of⟩)
    (ccstack_of : PySem.W.codeIn K cdstack_of "stack_of" = true)
    (kkstack_of : PySem.W.keepIn K (.ref fstack_of) = true)
    (awCounterStair_up : PySem.W.findIn K (.ref CCounterStair) "up" = some (some (.ref fCounterStair_up)))
    (iiCounterStair_up : PySem.W.isFn K (.ref fCounterStair_up) = true)
    (llCounterStair_up : K.lookup fCounterStair_up = some ⟨ocCounterStair_up, odCounterStair_up, .func (PySem.W.fnOf "up" "CounterStair.up" (defArgs s_CounterStair_up) (defBody s_CounterStair_up) (defScope s_CounterStair_up) .none kVCounterStair_up dcCounterStair_up pmCounterStair_up anCounterStair_up cdCounterStair_up ctCounterStair_up), slCounterStair_up⟩)
    (ccCounterStair_up : PySem.W.codeIn K cdCounterStair_up "CounterStair.up" = true)
    (kkCounterStair_up : PySem.W.keepIn K (.ref fCounterStair_up) = true)
    (awStackStair_up : PySem.W.findIn K (.ref CStackStair) "up" = some (some (.ref fStackStair_up)))
    (iiStackStair_up : PySem.W.isFn K (.ref fStackStair_up) = true)
    (llStackStair_up : K.lookup fStackStair_up = some ⟨ocStackStair_up, odStackStair_up, .func (PySem.W.fnOf "up" "StackStair.up" (defArgs s_StackStair_up) (defBody s_StackStair_up) (defScope s_StackStair_up) .none kVStackStair_up dcStackStair_up pmStackStair_up anStackStair_up cdStackStair_up ctStackStair_up), slStackStair_up⟩)
    (ccStackStair_up : PySem.W.codeIn K cdStackStair_up "StackStair.up" = true)
    (kkStackStair_up : PySem.W.keepIn K (.ref fStackStair_up) = true)
    (aware_numbers : PySem.W.nsIn K mainGlobals "are_numbers" = some (some (.ref fare_numbers)))
    (llare_numbers : K.lookup fare_numbers = some ⟨ocare_numbers, odare_numbers, .func (PySem.W.fnOf "are_numbers" "are_numbers" (defArgs s_are_numbers) (defBody s_are_numbers) (defScope s_are_numbers) .none kVare_numbers dcare_numbers pmare_numbers anare_numbers cdare_numbers ctare_numbers), slare_numbers⟩)
    (ccare_numbers : PySem.W.codeIn K cdare_numbers "are_numbers" = true)
    (kkare_numbers : PySem.W.keepIn K (.ref fare_numbers) = true)
    (awTapeddis_side : PySem.W.findIn K (.ref CTape) "_is_side" = some (some (.ref fTapeddis_side)))
    (iiTapeddis_side : PySem.W.isFn K (.ref fTapeddis_side) = true)
    (llTapeddis_side : K.lookup fTapeddis_side = some ⟨ocTapeddis_side, odTapeddis_side, .func (PySem.W.fnOf "_is_side" "Tape._is_side" (defArgs s_Tapeddis_side) (defBody s_Tapeddis_side) (defScope s_Tapeddis_side) .none kVTapeddis_side dcTapeddis_side pmTapeddis_side anTapeddis_side cdTapeddis_side ctTapeddis_side), slTapeddis_side⟩)
    (ccTapeddis_side : PySem.W.codeIn K cdTapeddis_side "Tape._is_side" = true)
    (kkTapeddis_side : PySem.W.keepIn K (.ref fTapeddis_side) = true)
    (awTape_is_configuration : PySem.W.findIn K (.ref CTape) "is_configuration" = some (some (.ref fTape_is_configuration)))
    (iiTape_is_configuration : PySem.W.isFn K (.ref fTape_is_configuration) = true)
    (llTape_is_configuration : K.lookup fTape_is_configuration = some ⟨ocTape_is_configuration, odTape_is_configuration, .func (PySem.W.fnOf "is_configuration" "Tape.is_configuration" (defArgs s_Tape_is_configuration) (defBody s_Tape_is_configuration) (defScope s_Tape_is_configuration) .none kVTape_is_configuration dcTape_is_configuration pmTape_is_configuration anTape_is_configuration cdTape_is_configuration ctTape_is_configuration), slTape_is_configuration⟩)
    (ccTape_is_configuration : PySem.W.codeIn K cdTape_is_configuration "Tape.is_configuration" = true)
    (kkTape_is_configuration : PySem.W.keepIn K (.ref fTape_is_configuration) = true)
    (awUpStair_up : PySem.W.findIn K (.ref CUpStair) "up" = some (some (.ref fUpStair_up)))
    (iiUpStair_up : PySem.W.isFn K (.ref fUpStair_up) = true)
    (llUpStair_up : K.lookup fUpStair_up = some ⟨ocUpStair_up, odUpStair_up, .func (PySem.W.fnOf "up" "UpStair.up" (defArgs s_UpStair_up) (defBody s_UpStair_up) (defScope s_UpStair_up) .none kVUpStair_up dcUpStair_up pmUpStair_up anUpStair_up cdUpStair_up ctUpStair_up), slUpStair_up⟩)
    (ccUpStair_up : PySem.W.codeIn K cdUpStair_up "UpStair.up" = true)
    (kkUpStair_up : PySem.W.keepIn K (.ref fUpStair_up) = true)
    (awlaw_back : PySem.W.nsIn K mainGlobals "_law_back" = some (some (.ref flaw_back)))
    (lllaw_back : K.lookup flaw_back = some ⟨oclaw_back, odlaw_back, .func (PySem.W.fnOf "_law_back" "_law_back" (defArgs s_law_back) (defBody s_law_back) (defScope s_law_back) .none kVlaw_back dclaw_back pmlaw_back anlaw_back cdlaw_back ctlaw_back), sllaw_back⟩)
    (cclaw_back : PySem.W.codeIn K cdlaw_back "_law_back" = true)
    (kklaw_back : PySem.W.keepIn K (.ref flaw_back) = true)
    (awTape_stopped : PySem.W.findIn K (.ref CTape) "stopped" = some (some (.ref fTape_stopped)))
    (iiTape_stopped : PySem.W.isFn K (.ref fTape_stopped) = true)
    (llTape_stopped : K.lookup fTape_stopped = some ⟨ocTape_stopped, odTape_stopped, .func (PySem.W.fnOf "stopped" "Tape.stopped" (defArgs s_Tape_stopped) (defBody s_Tape_stopped) (defScope s_Tape_stopped) .none kVTape_stopped dcTape_stopped pmTape_stopped anTape_stopped cdTape_stopped ctTape_stopped), slTape_stopped⟩)
    (ccTape_stopped : PySem.W.codeIn K cdTape_stopped "Tape.stopped" = true)
    (kkTape_stopped : PySem.W.keepIn K (.ref fTape_stopped) = true)
    (awTape_run : PySem.W.findIn K (.ref CTape) "run" = some (some (.ref fTape_run)))
    (iiTape_run : PySem.W.isFn K (.ref fTape_run) = true)
    (llTape_run : K.lookup fTape_run = some ⟨ocTape_run, odTape_run, .func (PySem.W.fnOf "run" "Tape.run" (defArgs s_Tape_run) (defBody s_Tape_run) (defScope s_Tape_run) .none kVTape_run dcTape_run pmTape_run anTape_run cdTape_run ctTape_run), slTape_run⟩)
    (ccTape_run : PySem.W.codeIn K cdTape_run "Tape.run" = true)
    (kkTape_run : PySem.W.keepIn K (.ref fTape_run) = true)
    (awStackStair_pace : PySem.W.findIn K (.ref CStackStair) "pace" = some (some (.ref fStackStair_pace)))
    (iiStackStair_pace : PySem.W.isFn K (.ref fStackStair_pace) = true)
    (llStackStair_pace : K.lookup fStackStair_pace = some ⟨ocStackStair_pace, odStackStair_pace, .func (PySem.W.fnOf "pace" "StackStair.pace" (defArgs s_StackStair_pace) (defBody s_StackStair_pace) (defScope s_StackStair_pace) .none kVStackStair_pace dcStackStair_pace pmStackStair_pace anStackStair_pace cdStackStair_pace ctStackStair_pace), slStackStair_pace⟩)
    (ccStackStair_pace : PySem.W.codeIn K cdStackStair_pace "StackStair.pace" = true)
    (kkStackStair_pace : PySem.W.keepIn K (.ref fStackStair_pace) = true)
    (awStacks_row : PySem.W.findIn K (.ref CStacks) "row" = some (some (.ref fStacks_row)))
    (iiStacks_row : PySem.W.isFn K (.ref fStacks_row) = true)
    (llStacks_row : K.lookup fStacks_row = some ⟨ocStacks_row, odStacks_row, .func (PySem.W.fnOf "row" "Stacks.row" (defArgs s_Stacks_row) (defBody s_Stacks_row) (defScope s_Stacks_row) .none kVStacks_row dcStacks_row pmStacks_row anStacks_row cdStacks_row ctStacks_row), slStacks_row⟩)
    (ccStacks_row : PySem.W.codeIn K cdStacks_row "Stacks.row" = true)
    (kkStacks_row : PySem.W.keepIn K (.ref fStacks_row) = true)
    (awCounterStair_pace : PySem.W.findIn K (.ref CCounterStair) "pace" = some (some (.ref fCounterStair_pace)))
    (iiCounterStair_pace : PySem.W.isFn K (.ref fCounterStair_pace) = true)
    (llCounterStair_pace : K.lookup fCounterStair_pace = some ⟨ocCounterStair_pace, odCounterStair_pace, .func (PySem.W.fnOf "pace" "CounterStair.pace" (defArgs s_CounterStair_pace) (defBody s_CounterStair_pace) (defScope s_CounterStair_pace) .none kVCounterStair_pace dcCounterStair_pace pmCounterStair_pace anCounterStair_pace cdCounterStair_pace ctCounterStair_pace), slCounterStair_pace⟩)
    (ccCounterStair_pace : PySem.W.codeIn K cdCounterStair_pace "CounterStair.pace" = true)
    (kkCounterStair_pace : PySem.W.keepIn K (.ref fCounterStair_pace) = true)
    (awCounters_row : PySem.W.findIn K (.ref CCounters) "row" = some (some (.ref fCounters_row)))
    (iiCounters_row : PySem.W.isFn K (.ref fCounters_row) = true)
    (llCounters_row : K.lookup fCounters_row = some ⟨ocCounters_row, odCounters_row, .func (PySem.W.fnOf "row" "Counters.row" (defArgs s_Counters_row) (defBody s_Counters_row) (defScope s_Counters_row) .none kVCounters_row dcCounters_row pmCounters_row anCounters_row cdCounters_row ctCounters_row), slCounters_row⟩)
    (ccCounters_row : PySem.W.codeIn K cdCounters_row "Counters.row" = true)
    (kkCounters_row : PySem.W.keepIn K (.ref fCounters_row) = true)
    (awUpStair_pace : PySem.W.findIn K (.ref CUpStair) "pace" = some (some (.ref fUpStair_pace)))
    (iiUpStair_pace : PySem.W.isFn K (.ref fUpStair_pace) = true)
    (llUpStair_pace : K.lookup fUpStair_pace = some ⟨ocUpStair_pace, odUpStair_pace, .func (PySem.W.fnOf "pace" "UpStair.pace" (defArgs s_UpStair_pace) (defBody s_UpStair_pace) (defScope s_UpStair_pace) .none kVUpStair_pace dcUpStair_pace pmUpStair_pace anUpStair_pace cdUpStair_pace ctUpStair_pace), slUpStair_pace⟩)
    (ccUpStair_pace : PySem.W.codeIn K cdUpStair_pace "UpStair.pace" = true)
    (kkUpStair_pace : PySem.W.keepIn K (.ref fUpStair_pace) = true)
    (awCounters_run : PySem.W.findIn K (.ref CCounters) "run" = some (some (.ref fCounters_run)))
    (iiCounters_run : PySem.W.isFn K (.ref fCounters_run) = true)
    (llCounters_run : K.lookup fCounters_run = some ⟨ocCounters_run, odCounters_run, .func (PySem.W.fnOf "run" "Counters.run" (defArgs s_Counters_run) (defBody s_Counters_run) (defScope s_Counters_run) .none kVCounters_run dcCounters_run pmCounters_run anCounters_run cdCounters_run ctCounters_run), slCounters_run⟩)
    (ccCounters_run : PySem.W.codeIn K cdCounters_run "Counters.run" = true)
    (kkCounters_run : PySem.W.keepIn K (.ref fCounters_run) = true)
    (awCounters_step : PySem.W.findIn K (.ref CCounters) "step" = some (some (.ref fCounters_step)))
    (iiCounters_step : PySem.W.isFn K (.ref fCounters_step) = true)
    (llCounters_step : K.lookup fCounters_step = some ⟨ocCounters_step, odCounters_step, .func (PySem.W.fnOf "step" "Counters.step" (defArgs s_Counters_step) (defBody s_Counters_step) (defScope s_Counters_step) .none kVCounters_step dcCounters_step pmCounters_step anCounters_step cdCounters_step ctCounters_step), slCounters_step⟩)
    (ccCounters_step : PySem.W.codeIn K cdCounters_step "Counters.step" = true)
    (kkCounters_step : PySem.W.keepIn K (.ref fCounters_step) = true)
    (awStacks_run : PySem.W.findIn K (.ref CStacks) "run" = some (some (.ref fStacks_run)))
    (iiStacks_run : PySem.W.isFn K (.ref fStacks_run) = true)
    (llStacks_run : K.lookup fStacks_run = some ⟨ocStacks_run, odStacks_run, .func (PySem.W.fnOf "run" "Stacks.run" (defArgs s_Stacks_run) (defBody s_Stacks_run) (defScope s_Stacks_run) .none kVStacks_run dcStacks_run pmStacks_run anStacks_run cdStacks_run ctStacks_run), slStacks_run⟩)
    (ccStacks_run : PySem.W.codeIn K cdStacks_run "Stacks.run" = true)
    (kkStacks_run : PySem.W.keepIn K (.ref fStacks_run) = true)
    (awStacks_step : PySem.W.findIn K (.ref CStacks) "step" = some (some (.ref fStacks_step)))
    (iiStacks_step : PySem.W.isFn K (.ref fStacks_step) = true)
    (llStacks_step : K.lookup fStacks_step = some ⟨ocStacks_step, odStacks_step, .func (PySem.W.fnOf "step" "Stacks.step" (defArgs s_Stacks_step) (defBody s_Stacks_step) (defScope s_Stacks_step) .none kVStacks_step dcStacks_step pmStacks_step anStacks_step cdStacks_step ctStacks_step), slStacks_step⟩)
    (ccStacks_step : PySem.W.codeIn K cdStacks_step "Stacks.step" = true)
    (kkStacks_step : PySem.W.keepIn K (.ref fStacks_step) = true)
    (awlaw_steps : PySem.W.nsIn K mainGlobals "_law_steps" = some (some (.ref flaw_steps)))
    (lllaw_steps : K.lookup flaw_steps = some ⟨oclaw_steps, odlaw_steps, .func (PySem.W.fnOf "_law_steps" "_law_steps" (defArgs s_law_steps) (defBody s_law_steps) (defScope s_law_steps) .none kVlaw_steps dclaw_steps pmlaw_steps anlaw_steps cdlaw_steps ctlaw_steps), sllaw_steps⟩)
    (cclaw_steps : PySem.W.codeIn K cdlaw_steps "_law_steps" = true)
    (kklaw_steps : PySem.W.keepIn K (.ref flaw_steps) = true)
    (awTape_step : PySem.W.findIn K (.ref CTape) "step" = some (some (.ref fTape_step)))
    (iiTape_step : PySem.W.isFn K (.ref fTape_step) = true)
    (llTape_step : K.lookup fTape_step = some ⟨ocTape_step, odTape_step, .func (PySem.W.fnOf "step" "Tape.step" (defArgs s_Tape_step) (defBody s_Tape_step) (defScope s_Tape_step) .none kVTape_step dcTape_step pmTape_step anTape_step cdTape_step ctTape_step), slTape_step⟩)
    (ccTape_step : PySem.W.codeIn K cdTape_step "Tape.step" = true)
    (kkTape_step : PySem.W.keepIn K (.ref fTape_step) = true)
    (awlaw : PySem.W.nsIn K mainGlobals "law" = some (some (.ref flaw)))
    (lllaw : K.lookup flaw = some ⟨oclaw, odlaw, .func (PySem.W.fnOf "law" "law" (defArgs s_law) (defBody s_law) (defScope s_law) .none kVlaw dclaw pmlaw anlaw cdlaw ctlaw), sllaw⟩)
    (cclaw : PySem.W.codeIn K cdlaw "law" = true)
    (kklaw : PySem.W.keepIn K (.ref flaw) = true)
    (knCOUNTERS : PySem.W.nsIn K mainGlobals "COUNTERS" = some (some (.int 3 tCOUNTERS)))
    (knFEWEST_MARKS : PySem.W.nsIn K mainGlobals "FEWEST_MARKS" = some (some (.int 2 tFEWEST_MARKS)))
    (knMARKS : PySem.W.nsIn K mainGlobals "MARKS" = some (some (.int 2 tMARKS)))
    (knMOST_COUNTERS : PySem.W.nsIn K mainGlobals "MOST_COUNTERS" = some (some (.int 4 tMOST_COUNTERS)))
    (knMOST_MARKS : PySem.W.nsIn K mainGlobals "MOST_MARKS" = some (some (.int 16 tMOST_MARKS)))
    (knMOST_STATES_counters : PySem.W.nsIn K mainGlobals "MOST_STATES_counters" = some (some (.int 40000 tMOST_STATES_counters)))
    (knMOST_STATES_stacks : PySem.W.nsIn K mainGlobals "MOST_STATES_stacks" = some (some (.int 5000 tMOST_STATES_stacks)))
    (knMOST_STATES_tape : PySem.W.nsIn K mainGlobals "MOST_STATES_tape" = some (some (.int 4000 tMOST_STATES_tape)))
    (knMOST_UPPER_COUNTERS : PySem.W.nsIn K mainGlobals "MOST_UPPER_COUNTERS" = some (some (.int 3 tMOST_UPPER_COUNTERS)))
    (knMOST_UPPER_STATES_stackstair : PySem.W.nsIn K mainGlobals "MOST_UPPER_STATES_stackstair" = some (some (.int 500 tMOST_UPPER_STATES_stackstair)))
    (knMOST_UPPER_STATES_upstair : PySem.W.nsIn K mainGlobals "MOST_UPPER_STATES_upstair" = some (some (.int 1000 tMOST_UPPER_STATES_upstair)))
    (knSPARE : PySem.W.nsIn K mainGlobals "SPARE" = some (some (.int 2 tSPARE)))
    (knSTATES_FOR_EACH_counterstair : PySem.W.nsIn K mainGlobals "STATES_FOR_EACH_counterstair" = some (some (.int 7 tSTATES_FOR_EACH_counterstair)))
    (knSTATES_FOR_EACH_stackstair : PySem.W.nsIn K mainGlobals "STATES_FOR_EACH_stackstair" = some (some (.int 9 tSTATES_FOR_EACH_stackstair)))
    (knSTATES_FOR_EACH_upstair : PySem.W.nsIn K mainGlobals "STATES_FOR_EACH_upstair" = some (some (.int 4 tSTATES_FOR_EACH_upstair)))
    (xgBadMachine : PySem.W.nsIn K mainGlobals "BadMachine" = some (some (.ref XBadMachine)))
    (xqBadMachine : PySem.W.excIn K XBadMachine [.type "ValueError", .type "Exception", .type "BaseException", .type "object"] "ValueError.__new__" = true)
    (xkBadMachine : PySem.W.keepIn K (.ref XBadMachine) = true)
    (xbBadMachine : PySem.W.subIn K (.ref XBadMachine) (.type "BaseException") = some true)
    (xtBadMachine : PySem.W.typeIn K (.ref XBadMachine) = some (.type "type"))
    (nnabs : PySem.W.nsIn K mainGlobals "abs" = some none)
    (nnall : PySem.W.nsIn K mainGlobals "all" = some none)
    (nnbool : PySem.W.nsIn K mainGlobals "bool" = some none)
    (nnenumerate : PySem.W.nsIn K mainGlobals "enumerate" = some none)
    (nnint : PySem.W.nsIn K mainGlobals "int" = some none)
    (nnisinstance : PySem.W.nsIn K mainGlobals "isinstance" = some none)
    (nnlen : PySem.W.nsIn K mainGlobals "len" = some none)
    (nnlist : PySem.W.nsIn K mainGlobals "list" = some none)
    (nnmax : PySem.W.nsIn K mainGlobals "max" = some none)
    (nnrange : PySem.W.nsIn K mainGlobals "range" = some none)
    (nnsum : PySem.W.nsIn K mainGlobals "sum" = some none)
    (nntuple : PySem.W.nsIn K mainGlobals "tuple" = some none) :
    ∃ fd : FuncData, (∀ (s : Shared) (v : Value), BindsTo s fd ⟨[v], []⟩ [("script", v)]) ∧ ∀ base : Heap, K.In base → base.Ns mainGlobals mg → FnOk P w K mg base (L2.CX P w) 8 fa fd ["script"] (spLaw K) := by
  have e := hfa.symm.trans (PySem.W.mg_of X G awlaw)
  cases e
  let T : Tx K mg := {
      C_Tape := CTape
      cl_Tape := ⟨pgTape, hdTape, poTape, saTape⟩
      mc_Tape := PySem.W.mg_of X G acTape
      na_Tape_marks := naTapemarks
      na_Tape_states := naTapestates
      na_Tape__rows := naTape_rows
      C_UpStair := CUpStair
      cl_UpStair := ⟨pgUpStair, hdUpStair, poUpStair, saUpStair⟩
      mc_UpStair := PySem.W.mg_of X G acUpStair
      na_UpStair_upper := naUpStairupper
      na_UpStair__origin := naUpStair_origin
      na_UpStair_lower := naUpStairlower
      C_Counters := CCounters
      cl_Counters := ⟨pgCounters, hdCounters, poCounters, saCounters⟩
      mc_Counters := PySem.W.mg_of X G acCounters
      na_Counters_count := naCounterscount
      na_Counters_states := naCountersstates
      na_Counters__rows := naCounters_rows
      C_CounterStair := CCounterStair
      cl_CounterStair := ⟨pgCounterStair, hdCounterStair, poCounterStair, saCounterStair⟩
      mc_CounterStair := PySem.W.mg_of X G acCounterStair
      na_CounterStair_upper := naCounterStairupper
      na_CounterStair_lower := naCounterStairlower
      C_Stacks := CStacks
      cl_Stacks := ⟨pgStacks, hdStacks, poStacks, saStacks⟩
      mc_Stacks := PySem.W.mg_of X G acStacks
      na_Stacks_states := naStacksstates
      na_Stacks__rows := naStacks_rows
      C_StackStair := CStackStair
      cl_StackStair := ⟨pgStackStair, hdStackStair, poStackStair, saStackStair⟩
      mc_StackStair := PySem.W.mg_of X G acStackStair
      na_StackStair_upper := naStackStairupper
      na_StackStair_lower := naStackStairlower
      m_law_draws := PySem.W.mg_of X G awlaw_draws
      a_law_draws := flaw_draws
      d_law_draws := _
      F_law_draws := fun_mk (st := s_law_draws) lllaw_draws cclaw_draws kklaw_draws
      b_law_draws := (fun_mk (st := s_law_draws) lllaw_draws cclaw_draws kklaw_draws).binds (ps := ["script", "many"]) (fun _ _ _ _ _ _ us hl => match us, hl with | [_, _], _ => rfl)
      m_is_whole := PySem.W.mg_of X G awis_whole
      a_is_whole := fis_whole
      d_is_whole := _
      F_is_whole := fun_mk (st := s_is_whole) llis_whole ccis_whole kkis_whole
      b_is_whole := (fun_mk (st := s_is_whole) llis_whole ccis_whole kkis_whole).binds (ps := ["value"]) (fun _ _ _ _ _ _ us hl => match us, hl with | [_], _ => rfl)
      m_is_number := PySem.W.mg_of X G awis_number
      a_is_number := fis_number
      d_is_number := _
      F_is_number := fun_mk (st := s_is_number) llis_number ccis_number kkis_number
      b_is_number := (fun_mk (st := s_is_number) llis_number ccis_number kkis_number).binds (ps := ["value", "low", "high"]) (fun _ _ _ _ _ _ us hl => match us, hl with | [_, _, _], _ => rfl)
      m_is_row := PySem.W.mg_of X G awis_row
      a_is_row := fis_row
      d_is_row := _
      F_is_row := fun_mk (st := s_is_row) llis_row ccis_row kkis_row
      b_is_row := (fun_mk (st := s_is_row) llis_row ccis_row kkis_row).binds (ps := ["value", "marks", "states"]) (fun _ _ _ _ _ _ us hl => match us, hl with | [_, _, _], _ => rfl)
      mk_Tape := ⟨mkTape, awTapedd_initdd, iiTapedd_initdd, kcTape⟩
      a_Tapedd_initdd := fTapedd_initdd
      d_Tapedd_initdd := _
      F_Tapedd_initdd := fun_mk (st := s_Tapedd_initdd) llTapedd_initdd ccTapedd_initdd kkTapedd_initdd
      b_Tapedd_initdd := (fun_mk (st := s_Tapedd_initdd) llTapedd_initdd ccTapedd_initdd kkTapedd_initdd).binds (ps := ["self", "marks", "states", "rows"]) (fun _ _ _ _ _ _ us hl => match us, hl with | [_, _, _, _], _ => rfl)
      m_law_tape_rows := PySem.W.mg_of X G awlaw_tape_rows
      a_law_tape_rows := flaw_tape_rows
      d_law_tape_rows := _
      F_law_tape_rows := fun_mk (st := s_law_tape_rows) lllaw_tape_rows cclaw_tape_rows kklaw_tape_rows
      b_law_tape_rows := (fun_mk (st := s_law_tape_rows) lllaw_tape_rows cclaw_tape_rows kklaw_tape_rows).binds (ps := ["draws", "marks", "states"]) (fun _ _ _ _ _ _ us hl => match us, hl with | [_, _, _], _ => rfl)
      m_is_stack_row := PySem.W.mg_of X G awis_stack_row
      a_is_stack_row := fis_stack_row
      d_is_stack_row := _
      F_is_stack_row := fun_mk (st := s_is_stack_row) llis_stack_row ccis_stack_row kkis_stack_row
      b_is_stack_row := (fun_mk (st := s_is_stack_row) llis_stack_row ccis_stack_row kkis_stack_row).binds (ps := ["row", "states"]) (fun _ _ _ _ _ _ us hl => match us, hl with | [_, _], _ => rfl)
      mk_Stacks := ⟨mkStacks, awStacksdd_initdd, iiStacksdd_initdd, kcStacks⟩
      a_Stacksdd_initdd := fStacksdd_initdd
      d_Stacksdd_initdd := _
      F_Stacksdd_initdd := fun_mk (st := s_Stacksdd_initdd) llStacksdd_initdd ccStacksdd_initdd kkStacksdd_initdd
      b_Stacksdd_initdd := (fun_mk (st := s_Stacksdd_initdd) llStacksdd_initdd ccStacksdd_initdd kkStacksdd_initdd).binds (ps := ["self", "rows"]) (fun _ _ _ _ _ _ us hl => match us, hl with | [_, _], _ => rfl)
      me_Tape_row := ⟨awTape_row, iiTape_row, kkTape_row⟩
      a_Tape_row := fTape_row
      d_Tape_row := _
      F_Tape_row := fun_mk (st := s_Tape_row) llTape_row ccTape_row kkTape_row
      b_Tape_row := (fun_mk (st := s_Tape_row) llTape_row ccTape_row kkTape_row).binds (ps := ["self", "state", "mark"]) (fun _ _ _ _ _ _ us hl => match us, hl with | [_, _, _], _ => rfl)
      m_rows_after_mark := PySem.W.mg_of X G awrows_after_mark
      a_rows_after_mark := frows_after_mark
      d_rows_after_mark := _
      F_rows_after_mark := fun_mk (st := s_rows_after_mark) llrows_after_mark ccrows_after_mark kkrows_after_mark
      b_rows_after_mark := (fun_mk (st := s_rows_after_mark) llrows_after_mark ccrows_after_mark kkrows_after_mark).binds (ps := ["row", "start"]) (fun _ _ _ _ _ _ us hl => match us, hl with | [_, _], _ => rfl)
      me_StackStairddall_rows := ⟨awStackStairddall_rows, iiStackStairddall_rows, kkStackStairddall_rows⟩
      a_StackStairddall_rows := fStackStairddall_rows
      d_StackStairddall_rows := _
      F_StackStairddall_rows := fun_mk (st := s_StackStairddall_rows) llStackStairddall_rows ccStackStairddall_rows kkStackStairddall_rows
      b_StackStairddall_rows := (fun_mk (st := s_StackStairddall_rows) llStackStairddall_rows ccStackStairddall_rows kkStackStairddall_rows).binds (ps := ["self"]) (fun _ _ _ _ _ _ us hl => match us, hl with | [_], _ => rfl)
      mk_StackStair := ⟨mkStackStair, awStackStairdd_initdd, iiStackStairdd_initdd, kcStackStair⟩
      a_StackStairdd_initdd := fStackStairdd_initdd
      d_StackStairdd_initdd := _
      F_StackStairdd_initdd := fun_mk (st := s_StackStairdd_initdd) llStackStairdd_initdd ccStackStairdd_initdd kkStackStairdd_initdd
      b_StackStairdd_initdd := (fun_mk (st := s_StackStairdd_initdd) llStackStairdd_initdd ccStackStairdd_initdd kkStackStairdd_initdd).binds (ps := ["self", "upper"]) (fun _ _ _ _ _ _ us hl => match us, hl with | [_, _], _ => rfl)
      m_is_counter_row := PySem.W.mg_of X G awis_counter_row
      a_is_counter_row := fis_counter_row
      d_is_counter_row := _
      F_is_counter_row := fun_mk (st := s_is_counter_row) llis_counter_row ccis_counter_row kkis_counter_row
      b_is_counter_row := (fun_mk (st := s_is_counter_row) llis_counter_row ccis_counter_row kkis_counter_row).binds (ps := ["row", "count", "states"]) (fun _ _ _ _ _ _ us hl => match us, hl with | [_, _, _], _ => rfl)
      mk_Counters := ⟨mkCounters, awCountersdd_initdd, iiCountersdd_initdd, kcCounters⟩
      a_Countersdd_initdd := fCountersdd_initdd
      d_Countersdd_initdd := _
      F_Countersdd_initdd := fun_mk (st := s_Countersdd_initdd) llCountersdd_initdd ccCountersdd_initdd kkCountersdd_initdd
      b_Countersdd_initdd := (fun_mk (st := s_Countersdd_initdd) llCountersdd_initdd ccCountersdd_initdd kkCountersdd_initdd).binds (ps := ["self", "count", "rows"]) (fun _ _ _ _ _ _ us hl => match us, hl with | [_, _, _], _ => rfl)
      me_Stacks_table := ⟨awStacks_table, iiStacks_table, kkStacks_table⟩
      a_Stacks_table := fStacks_table
      d_Stacks_table := _
      F_Stacks_table := fun_mk (st := s_Stacks_table) llStacks_table ccStacks_table kkStacks_table
      b_Stacks_table := (fun_mk (st := s_Stacks_table) llStacks_table ccStacks_table kkStacks_table).binds (ps := ["self"]) (fun _ _ _ _ _ _ us hl => match us, hl with | [_], _ => rfl)
      m_rows_of_push := PySem.W.mg_of X G awrows_of_push
      a_rows_of_push := frows_of_push
      d_rows_of_push := _
      F_rows_of_push := fun_mk (st := s_rows_of_push) llrows_of_push ccrows_of_push kkrows_of_push
      b_rows_of_push := (fun_mk (st := s_rows_of_push) llrows_of_push ccrows_of_push kkrows_of_push).binds (ps := ["row", "start"]) (fun _ _ _ _ _ _ us hl => match us, hl with | [_, _], _ => rfl)
      m_rows_of_pop := PySem.W.mg_of X G awrows_of_pop
      a_rows_of_pop := frows_of_pop
      d_rows_of_pop := _
      F_rows_of_pop := fun_mk (st := s_rows_of_pop) llrows_of_pop ccrows_of_pop kkrows_of_pop
      b_rows_of_pop := (fun_mk (st := s_rows_of_pop) llrows_of_pop ccrows_of_pop kkrows_of_pop).binds (ps := ["row", "start"]) (fun _ _ _ _ _ _ us hl => match us, hl with | [_, _], _ => rfl)
      me_CounterStairddall_rows := ⟨awCounterStairddall_rows, iiCounterStairddall_rows, kkCounterStairddall_rows⟩
      a_CounterStairddall_rows := fCounterStairddall_rows
      d_CounterStairddall_rows := _
      F_CounterStairddall_rows := fun_mk (st := s_CounterStairddall_rows) llCounterStairddall_rows ccCounterStairddall_rows kkCounterStairddall_rows
      b_CounterStairddall_rows := (fun_mk (st := s_CounterStairddall_rows) llCounterStairddall_rows ccCounterStairddall_rows kkCounterStairddall_rows).binds (ps := ["self"]) (fun _ _ _ _ _ _ us hl => match us, hl with | [_], _ => rfl)
      mk_CounterStair := ⟨mkCounterStair, awCounterStairdd_initdd, iiCounterStairdd_initdd, kcCounterStair⟩
      a_CounterStairdd_initdd := fCounterStairdd_initdd
      d_CounterStairdd_initdd := _
      F_CounterStairdd_initdd := fun_mk (st := s_CounterStairdd_initdd) llCounterStairdd_initdd ccCounterStairdd_initdd kkCounterStairdd_initdd
      b_CounterStairdd_initdd := (fun_mk (st := s_CounterStairdd_initdd) llCounterStairdd_initdd ccCounterStairdd_initdd kkCounterStairdd_initdd).binds (ps := ["self", "upper"]) (fun _ _ _ _ _ _ us hl => match us, hl with | [_, _], _ => rfl)
      me_Counters_table := ⟨awCounters_table, iiCounters_table, kkCounters_table⟩
      a_Counters_table := fCounters_table
      d_Counters_table := _
      F_Counters_table := fun_mk (st := s_Counters_table) llCounters_table ccCounters_table kkCounters_table
      b_Counters_table := (fun_mk (st := s_Counters_table) llCounters_table ccCounters_table kkCounters_table).binds (ps := ["self"]) (fun _ _ _ _ _ _ us hl => match us, hl with | [_], _ => rfl)
      m_rows_at_home := PySem.W.mg_of X G awrows_at_home
      a_rows_at_home := frows_at_home
      d_rows_at_home := _
      F_rows_at_home := fun_mk (st := s_rows_at_home) llrows_at_home ccrows_at_home kkrows_at_home
      b_rows_at_home := (fun_mk (st := s_rows_at_home) llrows_at_home ccrows_at_home kkrows_at_home).binds (ps := ["row", "home", "origin"]) (fun _ _ _ _ _ _ us hl => match us, hl with | [_, _, _], _ => rfl)
      m_rows_of_inc := PySem.W.mg_of X G awrows_of_inc
      a_rows_of_inc := frows_of_inc
      d_rows_of_inc := _
      F_rows_of_inc := fun_mk (st := s_rows_of_inc) llrows_of_inc ccrows_of_inc kkrows_of_inc
      b_rows_of_inc := (fun_mk (st := s_rows_of_inc) llrows_of_inc ccrows_of_inc kkrows_of_inc).binds (ps := ["row", "home", "origin"]) (fun _ _ _ _ _ _ us hl => match us, hl with | [_, _, _], _ => rfl)
      m_rows_of_dec := PySem.W.mg_of X G awrows_of_dec
      a_rows_of_dec := frows_of_dec
      d_rows_of_dec := _
      F_rows_of_dec := fun_mk (st := s_rows_of_dec) llrows_of_dec ccrows_of_dec kkrows_of_dec
      b_rows_of_dec := (fun_mk (st := s_rows_of_dec) llrows_of_dec ccrows_of_dec kkrows_of_dec).binds (ps := ["row", "home", "origin"]) (fun _ _ _ _ _ _ us hl => match us, hl with | [_, _, _], _ => rfl)
      me_UpStairddall_rows := ⟨awUpStairddall_rows, iiUpStairddall_rows, kkUpStairddall_rows⟩
      a_UpStairddall_rows := fUpStairddall_rows
      d_UpStairddall_rows := _
      F_UpStairddall_rows := fun_mk (st := s_UpStairddall_rows) llUpStairddall_rows ccUpStairddall_rows kkUpStairddall_rows
      b_UpStairddall_rows := (fun_mk (st := s_UpStairddall_rows) llUpStairddall_rows ccUpStairddall_rows kkUpStairddall_rows).binds (ps := ["self"]) (fun _ _ _ _ _ _ us hl => match us, hl with | [_], _ => rfl)
      mk_UpStair := ⟨mkUpStair, awUpStairdd_initdd, iiUpStairdd_initdd, kcUpStair⟩
      a_UpStairdd_initdd := fUpStairdd_initdd
      d_UpStairdd_initdd := _
      F_UpStairdd_initdd := fun_mk (st := s_UpStairdd_initdd) llUpStairdd_initdd ccUpStairdd_initdd kkUpStairdd_initdd
      b_UpStairdd_initdd := (fun_mk (st := s_UpStairdd_initdd) llUpStairdd_initdd ccUpStairdd_initdd kkUpStairdd_initdd).binds (ps := ["self", "upper"]) (fun _ _ _ _ _ _ us hl => match us, hl with | [_, _], _ => rfl)
      m_law_trimmed := PySem.W.mg_of X G awlaw_trimmed
      a_law_trimmed := flaw_trimmed
      d_law_trimmed := _
      F_law_trimmed := fun_mk (st := s_law_trimmed) lllaw_trimmed cclaw_trimmed kklaw_trimmed
      b_law_trimmed := (fun_mk (st := s_law_trimmed) lllaw_trimmed cclaw_trimmed kklaw_trimmed).binds (ps := ["bits"]) (fun _ _ _ _ _ _ us hl => match us, hl with | [_], _ => rfl)
      m_law_bits := PySem.W.mg_of X G awlaw_bits
      a_law_bits := flaw_bits
      d_law_bits := _
      F_law_bits := fun_mk (st := s_law_bits) lllaw_bits cclaw_bits kklaw_bits
      b_law_bits := (fun_mk (st := s_law_bits) lllaw_bits cclaw_bits kklaw_bits).binds (ps := ["draw", "most"]) (fun _ _ _ _ _ _ us hl => match us, hl with | [_, _], _ => rfl)
      m_value := PySem.W.mg_of X G awvalue
      a_value := fvalue
      d_value := _
      F_value := fun_mk (st := s_value) llvalue ccvalue kkvalue
      b_value := (fun_mk (st := s_value) llvalue ccvalue kkvalue).binds (ps := ["stack"]) (fun _ _ _ _ _ _ us hl => match us, hl with | [_], _ => rfl)
      me_CounterStair_down := ⟨awCounterStair_down, iiCounterStair_down, kkCounterStair_down⟩
      a_CounterStair_down := fCounterStair_down
      d_CounterStair_down := _
      F_CounterStair_down := fun_mk (st := s_CounterStair_down) llCounterStair_down ccCounterStair_down kkCounterStair_down
      b_CounterStair_down := (fun_mk (st := s_CounterStair_down) llCounterStair_down ccCounterStair_down kkCounterStair_down).binds (ps := ["self", "configuration"]) (fun _ _ _ _ _ _ us hl => match us, hl with | [_, _], _ => rfl)
      m_trimmed := PySem.W.mg_of X G awtrimmed
      a_trimmed := ftrimmed
      d_trimmed := _
      F_trimmed := fun_mk (st := s_trimmed) lltrimmed cctrimmed kktrimmed
      b_trimmed := (fun_mk (st := s_trimmed) lltrimmed cctrimmed kktrimmed).binds (ps := ["marks"]) (fun _ _ _ _ _ _ us hl => match us, hl with | [_], _ => rfl)
      me_StackStair_down := ⟨awStackStair_down, iiStackStair_down, kkStackStair_down⟩
      a_StackStair_down := fStackStair_down
      d_StackStair_down := _
      F_StackStair_down := fun_mk (st := s_StackStair_down) llStackStair_down ccStackStair_down kkStackStair_down
      b_StackStair_down := (fun_mk (st := s_StackStair_down) llStackStair_down ccStackStair_down kkStackStair_down).binds (ps := ["self", "configuration"]) (fun _ _ _ _ _ _ us hl => match us, hl with | [_, _], _ => rfl)
      me_UpStair_down := ⟨awUpStair_down, iiUpStair_down, kkUpStair_down⟩
      a_UpStair_down := fUpStair_down
      d_UpStair_down := _
      F_UpStair_down := fun_mk (st := s_UpStair_down) llUpStair_down ccUpStair_down kkUpStair_down
      b_UpStair_down := (fun_mk (st := s_UpStair_down) llUpStair_down ccUpStair_down kkUpStair_down).binds (ps := ["self", "configuration"]) (fun _ _ _ _ _ _ us hl => match us, hl with | [_, _], _ => rfl)
      m_law_down := PySem.W.mg_of X G awlaw_down
      a_law_down := flaw_down
      d_law_down := _
      F_law_down := fun_mk (st := s_law_down) lllaw_down cclaw_down kklaw_down
      b_law_down := (fun_mk (st := s_law_down) lllaw_down cclaw_down kklaw_down).binds (ps := ["stairs", "here"]) (fun _ _ _ _ _ _ us hl => match us, hl with | [_, _], _ => rfl)
      m_stack_of := PySem.W.mg_of X G awstack_of
      a_stack_of := fstack_of
      d_stack_of := _
      F_stack_of := fun_mk (st := s_stack_of) llstack_of ccstack_of kkstack_of
      b_stack_of := (fun_mk (st := s_stack_of) llstack_of ccstack_of kkstack_of).binds (ps := ["number"]) (fun _ _ _ _ _ _ us hl => match us, hl with | [_], _ => rfl)
      me_CounterStair_up := ⟨awCounterStair_up, iiCounterStair_up, kkCounterStair_up⟩
      a_CounterStair_up := fCounterStair_up
      d_CounterStair_up := _
      F_CounterStair_up := fun_mk (st := s_CounterStair_up) llCounterStair_up ccCounterStair_up kkCounterStair_up
      b_CounterStair_up := (fun_mk (st := s_CounterStair_up) llCounterStair_up ccCounterStair_up kkCounterStair_up).binds (ps := ["self", "configuration"]) (fun _ _ _ _ _ _ us hl => match us, hl with | [_, _], _ => rfl)
      me_StackStair_up := ⟨awStackStair_up, iiStackStair_up, kkStackStair_up⟩
      a_StackStair_up := fStackStair_up
      d_StackStair_up := _
      F_StackStair_up := fun_mk (st := s_StackStair_up) llStackStair_up ccStackStair_up kkStackStair_up
      b_StackStair_up := (fun_mk (st := s_StackStair_up) llStackStair_up ccStackStair_up kkStackStair_up).binds (ps := ["self", "configuration"]) (fun _ _ _ _ _ _ us hl => match us, hl with | [_, _], _ => rfl)
      m_are_numbers := PySem.W.mg_of X G aware_numbers
      a_are_numbers := fare_numbers
      d_are_numbers := _
      F_are_numbers := fun_mk (st := s_are_numbers) llare_numbers ccare_numbers kkare_numbers
      b_are_numbers := (fun_mk (st := s_are_numbers) llare_numbers ccare_numbers kkare_numbers).binds (ps := ["value", "low", "high"]) (fun _ _ _ _ _ _ us hl => match us, hl with | [_, _, _], _ => rfl)
      me_Tapeddis_side := ⟨awTapeddis_side, iiTapeddis_side, kkTapeddis_side⟩
      a_Tapeddis_side := fTapeddis_side
      d_Tapeddis_side := _
      F_Tapeddis_side := fun_mk (st := s_Tapeddis_side) llTapeddis_side ccTapeddis_side kkTapeddis_side
      b_Tapeddis_side := (fun_mk (st := s_Tapeddis_side) llTapeddis_side ccTapeddis_side kkTapeddis_side).binds (ps := ["self", "value"]) (fun _ _ _ _ _ _ us hl => match us, hl with | [_, _], _ => rfl)
      me_Tape_is_configuration := ⟨awTape_is_configuration, iiTape_is_configuration, kkTape_is_configuration⟩
      a_Tape_is_configuration := fTape_is_configuration
      d_Tape_is_configuration := _
      F_Tape_is_configuration := fun_mk (st := s_Tape_is_configuration) llTape_is_configuration ccTape_is_configuration kkTape_is_configuration
      b_Tape_is_configuration := (fun_mk (st := s_Tape_is_configuration) llTape_is_configuration ccTape_is_configuration kkTape_is_configuration).binds (ps := ["self", "value"]) (fun _ _ _ _ _ _ us hl => match us, hl with | [_, _], _ => rfl)
      me_UpStair_up := ⟨awUpStair_up, iiUpStair_up, kkUpStair_up⟩
      a_UpStair_up := fUpStair_up
      d_UpStair_up := _
      F_UpStair_up := fun_mk (st := s_UpStair_up) llUpStair_up ccUpStair_up kkUpStair_up
      b_UpStair_up := (fun_mk (st := s_UpStair_up) llUpStair_up ccUpStair_up kkUpStair_up).binds (ps := ["self", "configuration"]) (fun _ _ _ _ _ _ us hl => match us, hl with | [_, _], _ => rfl)
      m_law_back := PySem.W.mg_of X G awlaw_back
      a_law_back := flaw_back
      d_law_back := _
      F_law_back := fun_mk (st := s_law_back) lllaw_back cclaw_back kklaw_back
      b_law_back := (fun_mk (st := s_law_back) lllaw_back cclaw_back kklaw_back).binds (ps := ["stairs", "low"]) (fun _ _ _ _ _ _ us hl => match us, hl with | [_, _], _ => rfl)
      me_Tape_stopped := ⟨awTape_stopped, iiTape_stopped, kkTape_stopped⟩
      a_Tape_stopped := fTape_stopped
      d_Tape_stopped := _
      F_Tape_stopped := fun_mk (st := s_Tape_stopped) llTape_stopped ccTape_stopped kkTape_stopped
      b_Tape_stopped := (fun_mk (st := s_Tape_stopped) llTape_stopped ccTape_stopped kkTape_stopped).binds (ps := ["self", "configuration"]) (fun _ _ _ _ _ _ us hl => match us, hl with | [_, _], _ => rfl)
      me_Tape_run := ⟨awTape_run, iiTape_run, kkTape_run⟩
      a_Tape_run := fTape_run
      d_Tape_run := _
      F_Tape_run := fun_mk (st := s_Tape_run) llTape_run ccTape_run kkTape_run
      b_Tape_run := (fun_mk (st := s_Tape_run) llTape_run ccTape_run kkTape_run).binds (ps := ["self", "configuration", "steps"]) (fun _ _ _ _ _ _ us hl => match us, hl with | [_, _, _], _ => rfl)
      me_StackStair_pace := ⟨awStackStair_pace, iiStackStair_pace, kkStackStair_pace⟩
      a_StackStair_pace := fStackStair_pace
      d_StackStair_pace := _
      F_StackStair_pace := fun_mk (st := s_StackStair_pace) llStackStair_pace ccStackStair_pace kkStackStair_pace
      b_StackStair_pace := (fun_mk (st := s_StackStair_pace) llStackStair_pace ccStackStair_pace kkStackStair_pace).binds (ps := ["self", "configuration"]) (fun _ _ _ _ _ _ us hl => match us, hl with | [_, _], _ => rfl)
      me_Stacks_row := ⟨awStacks_row, iiStacks_row, kkStacks_row⟩
      a_Stacks_row := fStacks_row
      d_Stacks_row := _
      F_Stacks_row := fun_mk (st := s_Stacks_row) llStacks_row ccStacks_row kkStacks_row
      b_Stacks_row := (fun_mk (st := s_Stacks_row) llStacks_row ccStacks_row kkStacks_row).binds (ps := ["self", "state"]) (fun _ _ _ _ _ _ us hl => match us, hl with | [_, _], _ => rfl)
      me_CounterStair_pace := ⟨awCounterStair_pace, iiCounterStair_pace, kkCounterStair_pace⟩
      a_CounterStair_pace := fCounterStair_pace
      d_CounterStair_pace := _
      F_CounterStair_pace := fun_mk (st := s_CounterStair_pace) llCounterStair_pace ccCounterStair_pace kkCounterStair_pace
      b_CounterStair_pace := (fun_mk (st := s_CounterStair_pace) llCounterStair_pace ccCounterStair_pace kkCounterStair_pace).binds (ps := ["self", "configuration"]) (fun _ _ _ _ _ _ us hl => match us, hl with | [_, _], _ => rfl)
      me_Counters_row := ⟨awCounters_row, iiCounters_row, kkCounters_row⟩
      a_Counters_row := fCounters_row
      d_Counters_row := _
      F_Counters_row := fun_mk (st := s_Counters_row) llCounters_row ccCounters_row kkCounters_row
      b_Counters_row := (fun_mk (st := s_Counters_row) llCounters_row ccCounters_row kkCounters_row).binds (ps := ["self", "state"]) (fun _ _ _ _ _ _ us hl => match us, hl with | [_, _], _ => rfl)
      me_UpStair_pace := ⟨awUpStair_pace, iiUpStair_pace, kkUpStair_pace⟩
      a_UpStair_pace := fUpStair_pace
      d_UpStair_pace := _
      F_UpStair_pace := fun_mk (st := s_UpStair_pace) llUpStair_pace ccUpStair_pace kkUpStair_pace
      b_UpStair_pace := (fun_mk (st := s_UpStair_pace) llUpStair_pace ccUpStair_pace kkUpStair_pace).binds (ps := ["self", "configuration"]) (fun _ _ _ _ _ _ us hl => match us, hl with | [_, _], _ => rfl)
      me_Counters_run := ⟨awCounters_run, iiCounters_run, kkCounters_run⟩
      a_Counters_run := fCounters_run
      d_Counters_run := _
      F_Counters_run := fun_mk (st := s_Counters_run) llCounters_run ccCounters_run kkCounters_run
      b_Counters_run := (fun_mk (st := s_Counters_run) llCounters_run ccCounters_run kkCounters_run).binds (ps := ["self", "configuration", "steps"]) (fun _ _ _ _ _ _ us hl => match us, hl with | [_, _, _], _ => rfl)
      me_Counters_step := ⟨awCounters_step, iiCounters_step, kkCounters_step⟩
      a_Counters_step := fCounters_step
      d_Counters_step := _
      F_Counters_step := fun_mk (st := s_Counters_step) llCounters_step ccCounters_step kkCounters_step
      b_Counters_step := (fun_mk (st := s_Counters_step) llCounters_step ccCounters_step kkCounters_step).binds (ps := ["self", "configuration"]) (fun _ _ _ _ _ _ us hl => match us, hl with | [_, _], _ => rfl)
      me_Stacks_run := ⟨awStacks_run, iiStacks_run, kkStacks_run⟩
      a_Stacks_run := fStacks_run
      d_Stacks_run := _
      F_Stacks_run := fun_mk (st := s_Stacks_run) llStacks_run ccStacks_run kkStacks_run
      b_Stacks_run := (fun_mk (st := s_Stacks_run) llStacks_run ccStacks_run kkStacks_run).binds (ps := ["self", "configuration", "steps"]) (fun _ _ _ _ _ _ us hl => match us, hl with | [_, _, _], _ => rfl)
      me_Stacks_step := ⟨awStacks_step, iiStacks_step, kkStacks_step⟩
      a_Stacks_step := fStacks_step
      d_Stacks_step := _
      F_Stacks_step := fun_mk (st := s_Stacks_step) llStacks_step ccStacks_step kkStacks_step
      b_Stacks_step := (fun_mk (st := s_Stacks_step) llStacks_step ccStacks_step kkStacks_step).binds (ps := ["self", "configuration"]) (fun _ _ _ _ _ _ us hl => match us, hl with | [_, _], _ => rfl)
      m_law_steps := PySem.W.mg_of X G awlaw_steps
      a_law_steps := flaw_steps
      d_law_steps := _
      F_law_steps := fun_mk (st := s_law_steps) lllaw_steps cclaw_steps kklaw_steps
      b_law_steps := (fun_mk (st := s_law_steps) lllaw_steps cclaw_steps kklaw_steps).binds (ps := ["stairs", "here"]) (fun _ _ _ _ _ _ us hl => match us, hl with | [_, _], _ => rfl)
      me_Tape_step := ⟨awTape_step, iiTape_step, kkTape_step⟩
      a_Tape_step := fTape_step
      d_Tape_step := _
      F_Tape_step := fun_mk (st := s_Tape_step) llTape_step ccTape_step kkTape_step
      b_Tape_step := (fun_mk (st := s_Tape_step) llTape_step ccTape_step kkTape_step).binds (ps := ["self", "configuration"]) (fun _ _ _ _ _ _ us hl => match us, hl with | [_, _], _ => rfl)
      m_law := PySem.W.mg_of X G awlaw
      a_law := _
      d_law := _
      F_law := fun_mk (st := s_law) lllaw cclaw kklaw
      b_law := (fun_mk (st := s_law) lllaw cclaw kklaw).binds (ps := ["script"]) (fun _ _ _ _ _ _ us hl => match us, hl with | [_], _ => rfl)
      k_COUNTERS := ⟨_, PySem.W.mg_of X G knCOUNTERS⟩
      k_FEWEST_MARKS := ⟨_, PySem.W.mg_of X G knFEWEST_MARKS⟩
      k_MARKS := ⟨_, PySem.W.mg_of X G knMARKS⟩
      k_MOST_COUNTERS := ⟨_, PySem.W.mg_of X G knMOST_COUNTERS⟩
      k_MOST_MARKS := ⟨_, PySem.W.mg_of X G knMOST_MARKS⟩
      k_MOST_STATES_counters := ⟨_, PySem.W.mg_of X G knMOST_STATES_counters⟩
      k_MOST_STATES_stacks := ⟨_, PySem.W.mg_of X G knMOST_STATES_stacks⟩
      k_MOST_STATES_tape := ⟨_, PySem.W.mg_of X G knMOST_STATES_tape⟩
      k_MOST_UPPER_COUNTERS := ⟨_, PySem.W.mg_of X G knMOST_UPPER_COUNTERS⟩
      k_MOST_UPPER_STATES_stackstair := ⟨_, PySem.W.mg_of X G knMOST_UPPER_STATES_stackstair⟩
      k_MOST_UPPER_STATES_upstair := ⟨_, PySem.W.mg_of X G knMOST_UPPER_STATES_upstair⟩
      k_SPARE := ⟨_, PySem.W.mg_of X G knSPARE⟩
      k_STATES_FOR_EACH_counterstair := ⟨_, PySem.W.mg_of X G knSTATES_FOR_EACH_counterstair⟩
      k_STATES_FOR_EACH_stackstair := ⟨_, PySem.W.mg_of X G knSTATES_FOR_EACH_stackstair⟩
      k_STATES_FOR_EACH_upstair := ⟨_, PySem.W.mg_of X G knSTATES_FOR_EACH_upstair⟩
      X_BadMachine := XBadMachine
      xg_BadMachine := PySem.W.mg_of X G xgBadMachine
      xq_BadMachine := xqBadMachine
      xk_BadMachine := xkBadMachine
      xb_BadMachine := xbBadMachine
      xt_BadMachine := xtBadMachine
      n_abs := PySem.W.mg_none_of X G nnabs
      n_all := PySem.W.mg_none_of X G nnall
      n_bool := PySem.W.mg_none_of X G nnbool
      n_enumerate := PySem.W.mg_none_of X G nnenumerate
      n_int := PySem.W.mg_none_of X G nnint
      n_isinstance := PySem.W.mg_none_of X G nnisinstance
      n_len := PySem.W.mg_none_of X G nnlen
      n_list := PySem.W.mg_none_of X G nnlist
      n_max := PySem.W.mg_none_of X G nnmax
      n_range := PySem.W.mg_none_of X G nnrange
      n_sum := PySem.W.mg_none_of X G nnsum
      n_tuple := PySem.W.mg_none_of X G nntuple }
  exact ⟨T.d_law, fun s v => .of_eq rfl, fun base _ _ => law_of (ok_law T) (fun ns hl => law_true T ns hl)⟩
end My
open PySem PySem.W PyProof.Rows in
set_option maxRecDepth 100000 in
set_option maxHeartbeats 0 in
theorem PySem.Challenge.cw_stepdown_k48_whole_round_from_tape_to_ta_holds : PySem.Challenge.rw_stepdown_k48_whole_round_from_tape_to_ta.Holds := by
  w_on; o_law; k_head; (case hw => w_witness2)
  k_fill
  refine DL.walk_law (l := PySem.Challenge.rw_stepdown_k48_whole_round_from_tape_to_ta) (k := 8) rfl rfl ⟨rfl, by decide, by decide⟩ (fun w h Y => PySem.W.kIn_of Y) ?F
  case F =>
    intro w mg fa h KX G hmg
    refine' My.all_mk KX G hmg ?acTape ?pgTape ?hdTape ?poTape ?saTape ?mkTape ?kcTape ?naTapemarks ?naTapestates ?naTape_rows ?acUpStair ?pgUpStair ?hdUpStair ?poUpStair ?saUpStair ?mkUpStair ?kcUpStair ?naUpStairupper ?naUpStair_origin ?naUpStairlower ?acCounters ?pgCounters ?hdCounters ?poCounters ?saCounters ?mkCounters ?kcCounters ?naCounterscount ?naCountersstates ?naCounters_rows ?acCounterStair ?pgCounterStair ?hdCounterStair ?poCounterStair ?saCounterStair ?mkCounterStair ?kcCounterStair ?naCounterStairupper ?naCounterStairlower ?acStacks ?pgStacks ?hdStacks ?poStacks ?saStacks ?mkStacks ?kcStacks ?naStacksstates ?naStacks_rows ?acStackStair ?pgStackStair ?hdStackStair ?poStackStair ?saStackStair ?mkStackStair ?kcStackStair ?naStackStairupper ?naStackStairlower ?awlaw_draws ?lllaw_draws ?cclaw_draws ?kklaw_draws ?awis_whole ?llis_whole ?ccis_whole ?kkis_whole ?awis_number ?llis_number ?ccis_number ?kkis_number ?awis_row ?llis_row ?ccis_row ?kkis_row ?awTapedd_initdd ?iiTapedd_initdd ?llTapedd_initdd ?ccTapedd_initdd ?kkTapedd_initdd ?awlaw_tape_rows ?lllaw_tape_rows ?cclaw_tape_rows ?kklaw_tape_rows ?awis_stack_row ?llis_stack_row ?ccis_stack_row ?kkis_stack_row ?awStacksdd_initdd ?iiStacksdd_initdd ?llStacksdd_initdd ?ccStacksdd_initdd ?kkStacksdd_initdd ?awTape_row ?iiTape_row ?llTape_row ?ccTape_row ?kkTape_row ?awrows_after_mark ?llrows_after_mark ?ccrows_after_mark ?kkrows_after_mark ?awStackStairddall_rows ?iiStackStairddall_rows ?llStackStairddall_rows ?ccStackStairddall_rows ?kkStackStairddall_rows ?awStackStairdd_initdd ?iiStackStairdd_initdd ?llStackStairdd_initdd ?ccStackStairdd_initdd ?kkStackStairdd_initdd ?awis_counter_row ?llis_counter_row ?ccis_counter_row ?kkis_counter_row ?awCountersdd_initdd ?iiCountersdd_initdd ?llCountersdd_initdd ?ccCountersdd_initdd ?kkCountersdd_initdd ?awStacks_table ?iiStacks_table ?llStacks_table ?ccStacks_table ?kkStacks_table ?awrows_of_push ?llrows_of_push ?ccrows_of_push ?kkrows_of_push ?awrows_of_pop ?llrows_of_pop ?ccrows_of_pop ?kkrows_of_pop ?awCounterStairddall_rows ?iiCounterStairddall_rows ?llCounterStairddall_rows ?ccCounterStairddall_rows ?kkCounterStairddall_rows ?awCounterStairdd_initdd ?iiCounterStairdd_initdd ?llCounterStairdd_initdd ?ccCounterStairdd_initdd ?kkCounterStairdd_initdd ?awCounters_table ?iiCounters_table ?llCounters_table ?ccCounters_table ?kkCounters_table ?awrows_at_home ?llrows_at_home ?ccrows_at_home ?kkrows_at_home ?awrows_of_inc ?llrows_of_inc ?ccrows_of_inc ?kkrows_of_inc ?awrows_of_dec ?llrows_of_dec ?ccrows_of_dec ?kkrows_of_dec ?awUpStairddall_rows ?iiUpStairddall_rows ?llUpStairddall_rows ?ccUpStairddall_rows ?kkUpStairddall_rows ?awUpStairdd_initdd ?iiUpStairdd_initdd ?llUpStairdd_initdd ?ccUpStairdd_initdd ?kkUpStairdd_initdd ?awlaw_trimmed ?lllaw_trimmed ?cclaw_trimmed ?kklaw_trimmed ?awlaw_bits ?lllaw_bits ?cclaw_bits ?kklaw_bits ?awvalue ?llvalue ?ccvalue ?kkvalue ?awCounterStair_down ?iiCounterStair_down ?llCounterStair_down ?ccCounterStair_down ?kkCounterStair_down ?awtrimmed ?lltrimmed ?cctrimmed ?kktrimmed ?awStackStair_down ?iiStackStair_down ?llStackStair_down ?ccStackStair_down ?kkStackStair_down ?awUpStair_down ?iiUpStair_down ?llUpStair_down ?ccUpStair_down ?kkUpStair_down ?awlaw_down ?lllaw_down ?cclaw_down ?kklaw_down ?awstack_of ?llstack_of ?ccstack_of ?kkstack_of ?awCounterStair_up ?iiCounterStair_up ?llCounterStair_up ?ccCounterStair_up ?kkCounterStair_up ?awStackStair_up ?iiStackStair_up ?llStackStair_up ?ccStackStair_up ?kkStackStair_up ?aware_numbers ?llare_numbers ?ccare_numbers ?kkare_numbers ?awTapeddis_side ?iiTapeddis_side ?llTapeddis_side ?ccTapeddis_side ?kkTapeddis_side ?awTape_is_configuration ?iiTape_is_configuration ?llTape_is_configuration ?ccTape_is_configuration ?kkTape_is_configuration ?awUpStair_up ?iiUpStair_up ?llUpStair_up ?ccUpStair_up ?kkUpStair_up ?awlaw_back ?lllaw_back ?cclaw_back ?kklaw_back ?awTape_stopped ?iiTape_stopped ?llTape_stopped ?ccTape_stopped ?kkTape_stopped ?awTape_run ?iiTape_run ?llTape_run ?ccTape_run ?kkTape_run ?awStackStair_pace ?iiStackStair_pace ?llStackStair_pace ?ccStackStair_pace ?kkStackStair_pace ?awStacks_row ?iiStacks_row ?llStacks_row ?ccStacks_row ?kkStacks_row ?awCounterStair_pace ?iiCounterStair_pace ?llCounterStair_pace ?ccCounterStair_pace ?kkCounterStair_pace ?awCounters_row ?iiCounters_row ?llCounters_row ?ccCounters_row ?kkCounters_row ?awUpStair_pace ?iiUpStair_pace ?llUpStair_pace ?ccUpStair_pace ?kkUpStair_pace ?awCounters_run ?iiCounters_run ?llCounters_run ?ccCounters_run ?kkCounters_run ?awCounters_step ?iiCounters_step ?llCounters_step ?ccCounters_step ?kkCounters_step ?awStacks_run ?iiStacks_run ?llStacks_run ?ccStacks_run ?kkStacks_run ?awStacks_step ?iiStacks_step ?llStacks_step ?ccStacks_step ?kkStacks_step ?awlaw_steps ?lllaw_steps ?cclaw_steps ?kklaw_steps ?awTape_step ?iiTape_step ?llTape_step ?ccTape_step ?kkTape_step ?awlaw ?lllaw ?cclaw ?kklaw ?knCOUNTERS ?knFEWEST_MARKS ?knMARKS ?knMOST_COUNTERS ?knMOST_MARKS ?knMOST_STATES_counters ?knMOST_STATES_stacks ?knMOST_STATES_tape ?knMOST_UPPER_COUNTERS ?knMOST_UPPER_STATES_stackstair ?knMOST_UPPER_STATES_upstair ?knSPARE ?knSTATES_FOR_EACH_counterstair ?knSTATES_FOR_EACH_stackstair ?knSTATES_FOR_EACH_upstair ?xgBadMachine ?xqBadMachine ?xkBadMachine ?xbBadMachine ?xtBadMachine ?nnabs ?nnall ?nnbool ?nnenumerate ?nnint ?nnisinstance ?nnlen ?nnlist ?nnmax ?nnrange ?nnsum ?nntuple
    (case acTape => k_is)
    (case pgTape => k_is)
    (case hdTape => k_is)
    (case poTape => k_is)
    (case saTape => k_is)
    (case mkTape => k_is)
    (case kcTape => k_is)
    (case naTapemarks => k_is)
    (case naTapestates => k_is)
    (case naTape_rows => k_is)
    (case acUpStair => k_is)
    (case pgUpStair => k_is)
    (case hdUpStair => k_is)
    (case poUpStair => k_is)
    (case saUpStair => k_is)
    (case mkUpStair => k_is)
    (case kcUpStair => k_is)
    (case naUpStairupper => k_is)
    (case naUpStair_origin => k_is)
    (case naUpStairlower => k_is)
    (case acCounters => k_is)
    (case pgCounters => k_is)
    (case hdCounters => k_is)
    (case poCounters => k_is)
    (case saCounters => k_is)
    (case mkCounters => k_is)
    (case kcCounters => k_is)
    (case naCounterscount => k_is)
    (case naCountersstates => k_is)
    (case naCounters_rows => k_is)
    (case acCounterStair => k_is)
    (case pgCounterStair => k_is)
    (case hdCounterStair => k_is)
    (case poCounterStair => k_is)
    (case saCounterStair => k_is)
    (case mkCounterStair => k_is)
    (case kcCounterStair => k_is)
    (case naCounterStairupper => k_is)
    (case naCounterStairlower => k_is)
    (case acStacks => k_is)
    (case pgStacks => k_is)
    (case hdStacks => k_is)
    (case poStacks => k_is)
    (case saStacks => k_is)
    (case mkStacks => k_is)
    (case kcStacks => k_is)
    (case naStacksstates => k_is)
    (case naStacks_rows => k_is)
    (case acStackStair => k_is)
    (case pgStackStair => k_is)
    (case hdStackStair => k_is)
    (case poStackStair => k_is)
    (case saStackStair => k_is)
    (case mkStackStair => k_is)
    (case kcStackStair => k_is)
    (case naStackStairupper => k_is)
    (case naStackStairlower => k_is)
    (case awlaw_draws => k_is)
    (case lllaw_draws => k_is)
    (case cclaw_draws => k_is)
    (case kklaw_draws => k_is)
    (case awis_whole => k_is)
    (case llis_whole => k_is)
    (case ccis_whole => k_is)
    (case kkis_whole => k_is)
    (case awis_number => k_is)
    (case llis_number => k_is)
    (case ccis_number => k_is)
    (case kkis_number => k_is)
    (case awis_row => k_is)
    (case llis_row => k_is)
    (case ccis_row => k_is)
    (case kkis_row => k_is)
    (case awTapedd_initdd => k_is)
    (case iiTapedd_initdd => k_is)
    (case llTapedd_initdd => k_is)
    (case ccTapedd_initdd => k_is)
    (case kkTapedd_initdd => k_is)
    (case awlaw_tape_rows => k_is)
    (case lllaw_tape_rows => k_is)
    (case cclaw_tape_rows => k_is)
    (case kklaw_tape_rows => k_is)
    (case awis_stack_row => k_is)
    (case llis_stack_row => k_is)
    (case ccis_stack_row => k_is)
    (case kkis_stack_row => k_is)
    (case awStacksdd_initdd => k_is)
    (case iiStacksdd_initdd => k_is)
    (case llStacksdd_initdd => k_is)
    (case ccStacksdd_initdd => k_is)
    (case kkStacksdd_initdd => k_is)
    (case awTape_row => k_is)
    (case iiTape_row => k_is)
    (case llTape_row => k_is)
    (case ccTape_row => k_is)
    (case kkTape_row => k_is)
    (case awrows_after_mark => k_is)
    (case llrows_after_mark => k_is)
    (case ccrows_after_mark => k_is)
    (case kkrows_after_mark => k_is)
    (case awStackStairddall_rows => k_is)
    (case iiStackStairddall_rows => k_is)
    (case llStackStairddall_rows => k_is)
    (case ccStackStairddall_rows => k_is)
    (case kkStackStairddall_rows => k_is)
    (case awStackStairdd_initdd => k_is)
    (case iiStackStairdd_initdd => k_is)
    (case llStackStairdd_initdd => k_is)
    (case ccStackStairdd_initdd => k_is)
    (case kkStackStairdd_initdd => k_is)
    (case awis_counter_row => k_is)
    (case llis_counter_row => k_is)
    (case ccis_counter_row => k_is)
    (case kkis_counter_row => k_is)
    (case awCountersdd_initdd => k_is)
    (case iiCountersdd_initdd => k_is)
    (case llCountersdd_initdd => k_is)
    (case ccCountersdd_initdd => k_is)
    (case kkCountersdd_initdd => k_is)
    (case awStacks_table => k_is)
    (case iiStacks_table => k_is)
    (case llStacks_table => k_is)
    (case ccStacks_table => k_is)
    (case kkStacks_table => k_is)
    (case awrows_of_push => k_is)
    (case llrows_of_push => k_is)
    (case ccrows_of_push => k_is)
    (case kkrows_of_push => k_is)
    (case awrows_of_pop => k_is)
    (case llrows_of_pop => k_is)
    (case ccrows_of_pop => k_is)
    (case kkrows_of_pop => k_is)
    (case awCounterStairddall_rows => k_is)
    (case iiCounterStairddall_rows => k_is)
    (case llCounterStairddall_rows => k_is)
    (case ccCounterStairddall_rows => k_is)
    (case kkCounterStairddall_rows => k_is)
    (case awCounterStairdd_initdd => k_is)
    (case iiCounterStairdd_initdd => k_is)
    (case llCounterStairdd_initdd => k_is)
    (case ccCounterStairdd_initdd => k_is)
    (case kkCounterStairdd_initdd => k_is)
    (case awCounters_table => k_is)
    (case iiCounters_table => k_is)
    (case llCounters_table => k_is)
    (case ccCounters_table => k_is)
    (case kkCounters_table => k_is)
    (case awrows_at_home => k_is)
    (case llrows_at_home => k_is)
    (case ccrows_at_home => k_is)
    (case kkrows_at_home => k_is)
    (case awrows_of_inc => k_is)
    (case llrows_of_inc => k_is)
    (case ccrows_of_inc => k_is)
    (case kkrows_of_inc => k_is)
    (case awrows_of_dec => k_is)
    (case llrows_of_dec => k_is)
    (case ccrows_of_dec => k_is)
    (case kkrows_of_dec => k_is)
    (case awUpStairddall_rows => k_is)
    (case iiUpStairddall_rows => k_is)
    (case llUpStairddall_rows => k_is)
    (case ccUpStairddall_rows => k_is)
    (case kkUpStairddall_rows => k_is)
    (case awUpStairdd_initdd => k_is)
    (case iiUpStairdd_initdd => k_is)
    (case llUpStairdd_initdd => k_is)
    (case ccUpStairdd_initdd => k_is)
    (case kkUpStairdd_initdd => k_is)
    (case awlaw_trimmed => k_is)
    (case lllaw_trimmed => k_is)
    (case cclaw_trimmed => k_is)
    (case kklaw_trimmed => k_is)
    (case awlaw_bits => k_is)
    (case lllaw_bits => k_is)
    (case cclaw_bits => k_is)
    (case kklaw_bits => k_is)
    (case awvalue => k_is)
    (case llvalue => k_is)
    (case ccvalue => k_is)
    (case kkvalue => k_is)
    (case awCounterStair_down => k_is)
    (case iiCounterStair_down => k_is)
    (case llCounterStair_down => k_is)
    (case ccCounterStair_down => k_is)
    (case kkCounterStair_down => k_is)
    (case awtrimmed => k_is)
    (case lltrimmed => k_is)
    (case cctrimmed => k_is)
    (case kktrimmed => k_is)
    (case awStackStair_down => k_is)
    (case iiStackStair_down => k_is)
    (case llStackStair_down => k_is)
    (case ccStackStair_down => k_is)
    (case kkStackStair_down => k_is)
    (case awUpStair_down => k_is)
    (case iiUpStair_down => k_is)
    (case llUpStair_down => k_is)
    (case ccUpStair_down => k_is)
    (case kkUpStair_down => k_is)
    (case awlaw_down => k_is)
    (case lllaw_down => k_is)
    (case cclaw_down => k_is)
    (case kklaw_down => k_is)
    (case awstack_of => k_is)
    (case llstack_of => k_is)
    (case ccstack_of => k_is)
    (case kkstack_of => k_is)
    (case awCounterStair_up => k_is)
    (case iiCounterStair_up => k_is)
    (case llCounterStair_up => k_is)
    (case ccCounterStair_up => k_is)
    (case kkCounterStair_up => k_is)
    (case awStackStair_up => k_is)
    (case iiStackStair_up => k_is)
    (case llStackStair_up => k_is)
    (case ccStackStair_up => k_is)
    (case kkStackStair_up => k_is)
    (case aware_numbers => k_is)
    (case llare_numbers => k_is)
    (case ccare_numbers => k_is)
    (case kkare_numbers => k_is)
    (case awTapeddis_side => k_is)
    (case iiTapeddis_side => k_is)
    (case llTapeddis_side => k_is)
    (case ccTapeddis_side => k_is)
    (case kkTapeddis_side => k_is)
    (case awTape_is_configuration => k_is)
    (case iiTape_is_configuration => k_is)
    (case llTape_is_configuration => k_is)
    (case ccTape_is_configuration => k_is)
    (case kkTape_is_configuration => k_is)
    (case awUpStair_up => k_is)
    (case iiUpStair_up => k_is)
    (case llUpStair_up => k_is)
    (case ccUpStair_up => k_is)
    (case kkUpStair_up => k_is)
    (case awlaw_back => k_is)
    (case lllaw_back => k_is)
    (case cclaw_back => k_is)
    (case kklaw_back => k_is)
    (case awTape_stopped => k_is)
    (case iiTape_stopped => k_is)
    (case llTape_stopped => k_is)
    (case ccTape_stopped => k_is)
    (case kkTape_stopped => k_is)
    (case awTape_run => k_is)
    (case iiTape_run => k_is)
    (case llTape_run => k_is)
    (case ccTape_run => k_is)
    (case kkTape_run => k_is)
    (case awStackStair_pace => k_is)
    (case iiStackStair_pace => k_is)
    (case llStackStair_pace => k_is)
    (case ccStackStair_pace => k_is)
    (case kkStackStair_pace => k_is)
    (case awStacks_row => k_is)
    (case iiStacks_row => k_is)
    (case llStacks_row => k_is)
    (case ccStacks_row => k_is)
    (case kkStacks_row => k_is)
    (case awCounterStair_pace => k_is)
    (case iiCounterStair_pace => k_is)
    (case llCounterStair_pace => k_is)
    (case ccCounterStair_pace => k_is)
    (case kkCounterStair_pace => k_is)
    (case awCounters_row => k_is)
    (case iiCounters_row => k_is)
    (case llCounters_row => k_is)
    (case ccCounters_row => k_is)
    (case kkCounters_row => k_is)
    (case awUpStair_pace => k_is)
    (case iiUpStair_pace => k_is)
    (case llUpStair_pace => k_is)
    (case ccUpStair_pace => k_is)
    (case kkUpStair_pace => k_is)
    (case awCounters_run => k_is)
    (case iiCounters_run => k_is)
    (case llCounters_run => k_is)
    (case ccCounters_run => k_is)
    (case kkCounters_run => k_is)
    (case awCounters_step => k_is)
    (case iiCounters_step => k_is)
    (case llCounters_step => k_is)
    (case ccCounters_step => k_is)
    (case kkCounters_step => k_is)
    (case awStacks_run => k_is)
    (case iiStacks_run => k_is)
    (case llStacks_run => k_is)
    (case ccStacks_run => k_is)
    (case kkStacks_run => k_is)
    (case awStacks_step => k_is)
    (case iiStacks_step => k_is)
    (case llStacks_step => k_is)
    (case ccStacks_step => k_is)
    (case kkStacks_step => k_is)
    (case awlaw_steps => k_is)
    (case lllaw_steps => k_is)
    (case cclaw_steps => k_is)
    (case kklaw_steps => k_is)
    (case awTape_step => k_is)
    (case iiTape_step => k_is)
    (case llTape_step => k_is)
    (case ccTape_step => k_is)
    (case kkTape_step => k_is)
    (case awlaw => k_is)
    (case lllaw => k_is)
    (case cclaw => k_is)
    (case kklaw => k_is)
    (case knCOUNTERS => k_is)
    (case knFEWEST_MARKS => k_is)
    (case knMARKS => k_is)
    (case knMOST_COUNTERS => k_is)
    (case knMOST_MARKS => k_is)
    (case knMOST_STATES_counters => k_is)
    (case knMOST_STATES_stacks => k_is)
    (case knMOST_STATES_tape => k_is)
    (case knMOST_UPPER_COUNTERS => k_is)
    (case knMOST_UPPER_STATES_stackstair => k_is)
    (case knMOST_UPPER_STATES_upstair => k_is)
    (case knSPARE => k_is)
    (case knSTATES_FOR_EACH_counterstair => k_is)
    (case knSTATES_FOR_EACH_stackstair => k_is)
    (case knSTATES_FOR_EACH_upstair => k_is)
    (case xgBadMachine => k_is)
    (case xqBadMachine => first | k_is | k_exc)
    (case xkBadMachine => k_is)
    (case xbBadMachine => k_is)
    (case xtBadMachine => k_is)
    (case nnabs => k_is)
    (case nnall => k_is)
    (case nnbool => k_is)
    (case nnenumerate => k_is)
    (case nnint => k_is)
    (case nnisinstance => k_is)
    (case nnlen => k_is)
    (case nnlist => k_is)
    (case nnmax => k_is)
    (case nnrange => k_is)
    (case nnsum => k_is)
    (case nntuple => k_is)
