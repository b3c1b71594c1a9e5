import PyProof.Rows.All
import Wide.All
import OpenK.AllK
import Wide.FinOn
import HandS.ForMost
import HandS.IsInst
import HandS.Flow
import HandS.More
import HandS.NoneIn
import HandS.Strs
import HandS.SetFor
import PyProof.DictUpdate
import PyProof.RulesMatchSeq
import PyProof.Rows.MatchSeqLen
import KE.KUnpackStar
import HandS.SetBool
import KE.KDictCopyH
import HandS.Iter
import HandS.Zip
import HandS.Star
import PySem.Challenge.RW_envways_k09_pieces_laid_out
import HandS.SortRule
section
set_option Elab.async false
set_option linter.all false
set_option maxRecDepth 100000
namespace Env
open PySem L2

/-! ### a def of the text, found -/
structure Df (K : PySem.W.Frag) (mg : Str → Option Value) (x qual : Str) (st : Stmt) (ps : List Str) where
  f : Addr
  d : FuncData
  F : Fun K x qual st f d
  b : Binds K d ps []
  m : mg x = some (.ref f)

theorem pe_cl {X : Cx} {x q : Str} {st : Stmt} {ps : List Str} {sp : Sp} {k k' : Nat} {e : Expr} {es : List Expr} {p pos : Pos} {t : TA}
    (D : Df X.K X.mg x q st ps) (G : FnOk X.prog X.w X.K X.mg X.base CX0 k D.f D.d ps sp) (hr : Room k' X.A) (hk : k ≤ k') (hg : Gl X x) (h : PA X (e :: es) t)
    (hdb : (x == ("__debug__" : Str)) = false := by decide) (he : starEach (e :: es) X.env = (false, eval e X.env) :: starEach es X.env := by rfl) (hpl : (backTo pos (starEach es X.env)).any (·.1) = false := by rfl) :
    PE X (.Call (.Name x p) (e :: es) [] pos) (tCall sp [] E0 t) := pe_call G (hr.mono hk) hg D.m D.F.kp D.b .nil pass0 h hdb he hpl

/-! ### rules by the written part's name (in a comprehension's block it may not be read off the block) -/
section
variable {X : Cx} {K : PySem.W.Frag}
theorem ixL (h : X.K = K) : IxR X (rIxL K) := h ▸ ix_list
theorem ixT (h : X.K = K) : IxR X (rIxT K) := h ▸ ix_tup
theorem slL (h : X.K = K) : SlR X (rSlL K) := h ▸ sl_list
theorem slT (h : X.K = K) : SlR X (rSlT K) := h ▸ sl_tup
theorem inS (h : X.K = K) : OpR X (compareOp .In) (rIn K false) := h ▸ op_in_seq
theorem ninS (h : X.K = K) : OpR X (compareOp .NotIn) (rIn K true) := h ▸ op_notIn_seq
theorem eqDK (h : X.K = K) (hu : X.A.units + 64 < cLine) : OpR X (compareOp .Eq) (rEqD K) := h ▸ op_eqD hu
theorem neDK (h : X.K = K) (hu : X.A.units + 64 < cLine) : OpR X (compareOp .NotEq) (rNeD K) := h ▸ op_neD hu
def rLenK (K : PySem.W.Frag) : List V → Hp → VK → Prop := fun xs H Q => ∃ p ys, xs = [.ref p] ∧ (SqL K H p ys ∨ SqT K H p ys) ∧ Q (.int ys.length) H
theorem lenS (h : X.K = K) : CallR X (.builtin "len") (rLenK K) := h ▸ call_len_seq
theorem isiK (h : X.K = K) : CallR X (.builtin "isinstance") (rIsi K) := h ▸ call_isi
theorem isiTK (h : X.K = K) : CallR X (.builtin "isinstance") (rIsiT K) := h ▸ call_isiT
theorem sumK (h : X.K = K) (hc : X.calm = true) : CallR X (.builtin "sum") (rSum K) := h ▸ cr_sum hc
theorem piL {tg l : Expr} {tl : TE} (h : X.K = K) (hl : PE X l tl) : PI X tg l (iList K tl) := h ▸ pi_list hl
theorem piT {tg l : Expr} {tl : TE} (h : X.K = K) (hl : PE X l tl) : PI X tg l (iTup K tl) := h ▸ pi_tup hl
end

/-! ### heaps: all is kept, but lists at ms -/
def Ext (ms : List Addr) (H H' : Hp) : Prop := ∀ b o, H b = some o → (b ∉ ms ∨ ∀ xs, o ≠ .lst xs) → H' b = some o
theorem Ext.refl (ms : List Addr) (H : Hp) : Ext ms H H := fun _ _ h _ => h
theorem Ext.trans {ms : List Addr} {H H1 H2 : Hp} (a : Ext ms H H1) (b : Ext ms H1 H2) : Ext ms H H2 := fun c o h n => b c o (a c o h n) n
theorem Ext.mono {ms ns : List Addr} {H H' : Hp} (a : Ext ms H H') (h : ∀ b ∈ ms, b ∈ ns) : Ext ns H H' := fun c o e n => a c o e (n.imp (fun z q => z (h c q)) id)
theorem Ext.to {ns : List Addr} {H H' : Hp} (a : Ext [] H H') : Ext ns H H' := a.mono fun _ z => nomatch z
theorem Ext.new {ms : List Addr} {H : Hp} {p : Addr} {o : HO} (h : H p = none) : Ext ms H (upd H p o) := fun b u e _ => by
  rw [upd_ne (ne_of_none e h)]; exact e
theorem Ext.fresh {ms : List Addr} {H H' : Hp} {p : Addr} (a : Ext ms H H') (h : H' p = none) : H p = none ∨ p ∈ ms := by
  cases q : H p with
  | none => exact .inl rfl
  | some o =>
    by_cases m : p ∈ ms
    · exact .inr m
    · rw [a p o q (.inl m)] at h; cases h
theorem Ext.fresh0 {H H' : Hp} {p : Addr} (a : Ext [] H H') (h : H' p = none) : H p = none := (a.fresh h).resolve_right fun z => nomatch z
/-- a list at one of ms is stored -/
theorem Ext.put {ms : List Addr} {H : Hp} {r : Addr} {xs : List V} {o : HO} (h : H r = some (.lst xs)) (m : r ∈ ms) : Ext ms H (upd H r o) := fun b u e n => by
  by_cases z : b = r
  · subst z; rw [h] at e; cases e
    rcases n with n | n
    · exact absurd m n
    · exact absurd rfl (n xs)
  · rw [upd_ne z]; exact e
/-- what is new since H may be changed -/
theorem Ext.mut {ms : List Addr} {H H' : Hp} {p : Addr} {o : HO} (a : Ext ms H H') (h : H p = none) : Ext ms H (upd H' p o) := fun b u e n => by
  rw [upd_ne (ne_of_none e h)]; exact a b u e n
theorem Ext.seqL {K : PySem.W.Frag} {ms : List Addr} {H H' : Hp} {a : Addr} {xs : List V} (e : Ext ms H H') (n : a ∉ ms) (h : SqL K H a xs) : SqL K H' a xs := by
  rcases h with (h | ⟨o, h⟩) | h
  · exact .inl (.inl (e _ _ h (.inl n)))
  · exact .inl (.inr ⟨o, e _ _ h (.inl n)⟩)
  · exact .inr h
theorem Ext.seqT {K : PySem.W.Frag} {ms : List Addr} {H H' : Hp} {a : Addr} {xs : List V} (e : Ext ms H H') (h : SqT K H a xs) : SqT K H' a xs := by
  rcases h with (h | ⟨o, h⟩) | h
  · exact .inl (.inl (e _ _ h (.inr fun _ z => nomatch z)))
  · exact .inl (.inr ⟨o, e _ _ h (.inr fun _ z => nomatch z)⟩)
  · exact .inr h
theorem Ext.dk {ms : List Addr} {H H' : Hp} {a : Addr} {kvs : List (Key × V)} (e : Ext ms H H') (h : H a = some (.dK kvs)) : H' a = some (.dK kvs) := e _ _ h (.inr fun _ z => nomatch z)
theorem Ext.tup {ms : List Addr} {H H' : Hp} {a : Addr} {xs : List V} (e : Ext ms H H') (h : H a = some (.tup xs)) : H' a = some (.tup xs) := e _ _ h (.inr fun _ z => nomatch z)

/-! ### the law's row: the script, the next cell, the mix, the rest of a great cell -/
structure Scr where
  a : Addr
  ns : List Int
def KPart (K : PySem.W.Frag) (s : Scr) : Prop := ∃ (o : Obj) (its : Array Value) (n : Nat), K.lookup s.a = some o ∧ o.cls = .type "list" ∧ o.dict = none ∧ o.data = .seq its n ∧ its.size ≤ sizeLine ∧ Vals (s.ns.map V.int) its.toList
/-- the script is not at b, or stands in the written part -/
def Off (K : PySem.W.Frag) (s : Scr) (b : Addr) : Prop := s.a ≠ b ∨ KPart K s
def RowAt (K : PySem.W.Frag) (r : Addr) (s : Scr) (H : Hp) : Prop := ∃ (k m t : Int), H r = some (.lst [.ref s.a, .int k, .int m, .int t]) ∧ SqL K H s.a (s.ns.map V.int) ∧ s.ns.length ≤ 63 ∧ 0 ≤ k ∧ 0 ≤ m ∧ m < 2147483647 ∧ 0 ≤ t
theorem ints_not_refs {ns : List Int} {s : Addr} {l : List V} (h : ns.map V.int = .ref s :: l) : False := by
  cases ns with
  | nil => cases h
  | cons n r => cases h
/-- the script stays where the row is written -/
theorem script_put {K : PySem.W.Frag} {r s : Addr} {H : Hp} {ns : List Int} {l : List V} {o : HO} (h : H r = some (.lst (.ref s :: l))) (hs : SqL K H s (ns.map V.int)) : SqL K (upd H r o) s (ns.map V.int) := by
  rcases hs with (q | ⟨u, q⟩) | q
  · exact .inl (.inl (by rw [upd_ne (ne_of q h fun z => ints_not_refs (HO.lst.inj z))]; exact q))
  · exact .inl (.inr ⟨u, by rw [upd_ne (ne_of q h fun z => nomatch z)]; exact q⟩)
  · exact .inr q
theorem RowAt.off {K : PySem.W.Frag} {r l : Addr} {s : Scr} {H : Hp} (h : RowAt K r s H) (n : H l = none) : Off K s l := by
  obtain ⟨_, _, _, _, hs, _⟩ := h
  rcases hs with (q | ⟨o, q⟩) | q
  · exact .inl fun z => by rw [z, n] at q; cases q
  · exact .inl fun z => by rw [z, n] at q; cases q
  · exact .inr q
theorem RowAt.ext {K : PySem.W.Frag} {r : Addr} {s : Scr} {H H' : Hp} {ms : List Addr} (h : RowAt K r s H) (e : Ext ms H H') (hr : r ∉ ms) (hs : ∀ b ∈ ms, Off K s b) : RowAt K r s H' := by
  obtain ⟨k, m, t, h1, h2, h3⟩ := h
  refine ⟨k, m, t, e _ _ h1 (.inl hr), ?_, h3⟩
  rcases h2 with (q | ⟨o, q⟩) | q
  · by_cases z : s.a ∈ ms
    · rcases hs _ z with y | y
      · exact absurd rfl y
      · exact .inr y
    · exact .inl (.inl (e _ _ q (.inl z)))
  · exact .inl (.inr ⟨o, e _ _ q (.inr fun _ z => nomatch z)⟩)
  · exact .inr q
theorem RowAt.ext0 {K : PySem.W.Frag} {r : Addr} {s : Scr} {H H' : Hp} (h : RowAt K r s H) (e : Ext [] H H') : RowAt K r s H' := h.ext e (fun z => nomatch z) fun _ z => nomatch z
theorem RowAt.ext1 {K : PySem.W.Frag} {r b : Addr} {s : Scr} {H H' : Hp} (h : RowAt K r s H) (e : Ext [b] H H') (hr : b ≠ r) (hs : Off K s b) : RowAt K r s H' := h.ext e (fun z => hr (List.mem_singleton.mp z).symm) fun c z => by rw [List.mem_singleton.mp z]; exact hs
theorem RowAt.ne_new {K : PySem.W.Frag} {r l : Addr} {s : Scr} {H : Hp} (R : RowAt K r s H) (n : H l = none) : l ≠ r := fun z => by
  obtain ⟨_, _, _, hr', _⟩ := R
  rw [z, hr'] at n; cases n
theorem Ext.fresh1 {K : PySem.W.Frag} {r l : Addr} {s : Scr} {H H' : Hp} (X : Ext [r] H H') (R : RowAt K r s H') (n : H' l = none) : H l = none := (X.fresh n).elim id fun z => absurd (List.mem_singleton.mp z) (R.ne_new n)
theorem szb {n : Nat} (h : Nat.ble n 1000 = true) : n ≤ sizeLine := Nat.le_of_lt (small1000 (Nat.le_of_ble_eq_true h))

/-! ### expressions -/
inductive E where
  | num (n : Int) | nam (k : Int) | plus (a b : E) | elet (k : Int) (a b : E) | efun (k : Int) (a : E) | call (a b : E) | eif (a b c : E)
/-- the expression e stands at v -/
def TE (K : PySem.W.Frag) (H : Hp) : V → E → Prop
  | v, .num n => ∃ p, v = .ref p ∧ SqT K H p [.str "num", .int n]
  | v, .nam k => ∃ p, v = .ref p ∧ SqT K H p [.str "name", .int k]
  | v, .plus a b => ∃ p x y, v = .ref p ∧ SqT K H p [.str "plus", x, y] ∧ TE K H x a ∧ TE K H y b
  | v, .elet k a b => ∃ p x y, v = .ref p ∧ SqT K H p [.str "let", .int k, x, y] ∧ TE K H x a ∧ TE K H y b
  | v, .efun k a => ∃ p x, v = .ref p ∧ SqT K H p [.str "fun", .int k, x] ∧ TE K H x a
  | v, .call a b => ∃ p x y, v = .ref p ∧ SqT K H p [.str "call", x, y] ∧ TE K H x a ∧ TE K H y b
  | v, .eif a b c => ∃ p x y z, v = .ref p ∧ SqT K H p [.str "if", x, y, z] ∧ TE K H x a ∧ TE K H y b ∧ TE K H z c
theorem TE.ext {K : PySem.W.Frag} {ms : List Addr} {H H' : Hp} (e : Ext ms H H') : ∀ {t : E} {v : V}, TE K H v t → TE K H' v t
  | .num _, _, ⟨p, h, q⟩ => ⟨p, h, e.seqT q⟩
  | .nam _, _, ⟨p, h, q⟩ => ⟨p, h, e.seqT q⟩
  | .plus _ _, _, ⟨p, x, y, h, q, a, b⟩ => ⟨p, x, y, h, e.seqT q, TE.ext e a, TE.ext e b⟩
  | .elet _ _ _, _, ⟨p, x, y, h, q, a, b⟩ => ⟨p, x, y, h, e.seqT q, TE.ext e a, TE.ext e b⟩
  | .efun _ _, _, ⟨p, x, h, q, a⟩ => ⟨p, x, h, e.seqT q, TE.ext e a⟩
  | .call _ _, _, ⟨p, x, y, h, q, a, b⟩ => ⟨p, x, y, h, e.seqT q, TE.ext e a, TE.ext e b⟩
  | .eif _ _ _, _, ⟨p, x, y, z, h, q, a, b, c⟩ => ⟨p, x, y, z, h, e.seqT q, TE.ext e a, TE.ext e b, TE.ext e c⟩
def E.size : E → Nat
  | .num _ => 1
  | .nam _ => 1
  | .plus a b => 1 + a.size + b.size
  | .elet _ a b => 1 + a.size + b.size
  | .efun _ a => 1 + a.size
  | .call a b => 1 + a.size + b.size
  | .eif a b c => 1 + a.size + b.size + c.size
/-- how many stand within one another -/
def E.hgt : E → Nat
  | .num _ => 1
  | .nam _ => 1
  | .plus a b => 1 + max a.hgt b.hgt
  | .elet _ a b => 1 + max a.hgt b.hgt
  | .efun _ a => 1 + a.hgt
  | .call a b => 1 + max a.hgt b.hgt
  | .eif a b c => 1 + max a.hgt (max b.hgt c.hgt)
/-- numbers and names within their bounds, each name bound; S: what is bound around -/
def E.ok : E → (Int → Prop) → Prop
  | .num n, _ => 0 ≤ n ∧ n ≤ 999
  | .nam k, S => 0 ≤ k ∧ k ≤ 9 ∧ S k
  | .plus a b, S => a.ok S ∧ b.ok S
  | .elet k a b, S => 0 ≤ k ∧ k ≤ 9 ∧ a.ok S ∧ b.ok fun j => j = k ∨ S j
  | .efun k a, S => 0 ≤ k ∧ k ≤ 9 ∧ a.ok fun j => j = k ∨ S j
  | .call a b, S => a.ok S ∧ b.ok S
  | .eif a b c, S => a.ok S ∧ b.ok S ∧ c.ok S
theorem E.ok.mono : ∀ {e : E} {S T : Int → Prop}, e.ok S → (∀ j, S j → T j) → e.ok T
  | .num _, _, _, h, _ => h
  | .nam _, _, _, ⟨a, b, c⟩, m => ⟨a, b, m _ c⟩
  | .plus _ _, _, _, ⟨a, b⟩, m => ⟨a.mono m, b.mono m⟩
  | .elet _ _ _, _, _, ⟨h, g, a, b⟩, m => ⟨h, g, a.mono m, b.mono fun j => Or.imp id (m j)⟩
  | .efun _ _, _, _, ⟨h, g, a⟩, m => ⟨h, g, a.mono fun j => Or.imp id (m j)⟩
  | .call _ _, _, _, ⟨a, b⟩, m => ⟨a.mono m, b.mono m⟩
  | .eif _ _ _, _, _, ⟨a, b, c⟩, m => ⟨a.mono m, b.mono m, c.mono m⟩

/-! ### a scope: names (ints) with their sorts (ints) -/
def ScAt (H : Hp) (a : Addr) (f : List (Int × Int)) : Prop := H a = some (.dK (f.map fun p => ((Sum.inl p.1 : Key), V.int p.2)))
theorem ScAt.ext {H H' : Hp} {a : Addr} {f : List (Int × Int)} {ms : List Addr} (h : ScAt H a f) (e : Ext ms H H') : ScAt H' a f := e.dk h
end Env
end
section
set_option Elab.async false
set_option linter.all false
set_option maxRecDepth 100000
set_option maxHeartbeats 4000000
namespace Env
open PySem PySem.Spec PyProof.Rows L2
section
variable {P : Program} {w : World} {A : Around} {E : Value → Shared → Prop} {s : Shared}
/-- the set that is just made -/
abbrev set0 (w : World) : Obj := { cls := .type "set", dict := none, data := .set #[] 0 (.fresh 0 0 (!w.params.followText "set-order")) }
/-- what filling it from a list of whole numbers comes to -/
abbrev SetDone (w : World) (s : Shared) (ns : List Int) (s2 : Shared) : Prop :=
  ∃ (h' : Heap) (tk c : Nat), s2 = { s with heap := h', toks := tk } ∧ SetR w h' s.heap.objs.size (fun j => decide (j ∈ ns)) c ∧ c ≤ ns.length ∧ ∀ b o, s.heap.get? b = some o → h'.get? b = some o
/-- set(l), l a list of whole numbers -/
theorem set_of_list {l : Addr} {vs : Array Value} (ns : List Int) {Q : Value → Shared → Prop} (hA : A.handled = none) (hl : s.heap.IsList l vs) (hv : IntsAre vs.toList ns) (few : ns.length + 1 < scanBound)
    (k : ∀ s2, SetDone w s ns s2 → Q (.ref s.heap.objs.size) s2) : wpAny (model P w) A (call (.type "set") [.ref l]) Q E s := by
  have size_eq : vs.size = ns.length := by have z := hv.length; rwa [Array.length_toList] at z
  obtain ⟨_, _, mro_⟩ := F.called_set.mro
  have made_ := F.called_set.made; have sub_ := F.called_set.sub; have nt_ := F.called_set.notType
  have cc_ := F.called_set.canCreate; have tc_ := F.typeCall_set_1 (.ref l)
  refine wpAny_call (codeAny_of_tree (?_ : wpAny (model P w) _ (callAny (.type "set") ⟨[.ref l], []⟩) _ _ _))
  refine wpAny_pure (And.intro (Code.quiet_builtin _ (by decide +kernel)) (codeAny_builtin F.entry_type_call ?_))
  rw [Around.under_plain (weight_type_call_type "set" [.ref l] []) (by rfl)]
  (repeat (any_goals (first | assumption | wp_step)))
  refine codeAny_mono (code_set_led1 (.ref l) (E := E) (Q₁ := fun v s1 => v = .ref s.heap.objs.size ∧ s1 = { s with heap := s.heap.push (set0 w) }) (And.intro rfl rfl)) ?_
  intro res s1 hres
  match res, hres with
  | .error _, he => exact he
  | .ok .next, he => exact he.elim
  | .ok .brk, he => exact he.elim
  | .ok .cont, he => exact he.elim
  | .ok (.ret v), ⟨ev, es⟩ =>
    subst ev; subst es
    have at0 : (s.heap.push (set0 w)).get? s.heap.objs.size = some (set0 w) := Heap.get?_push_size _ rfl
    have isSet : Shared.TypeIs { s with heap := s.heap.push (set0 w) } (.ref s.heap.objs.size) "set" := ⟨_, at0, rfl⟩
    have il_ := F.called_set.init.lookup; have ib_ := F.called_set.init.bind (.ref s.heap.objs.size)
    (repeat (any_goals (first | assumption | wp_step)))
    refine codeAny_mono (codeAny_call_builtin (R := wants (fun v s2 => v = .none ∧ SetDone w s ns s2) E) F.called_set.init.plain F.entry_set_init (check_set_init_1 isSet ?_)) ?_
    · obtain ⟨⟨oc, od, odat, osl⟩, getl, (rfl : oc = _), nl, (rfl : odat = _)⟩ := hl
      have getl' : (s.heap.push (set0 w)).get? l = some { cls := .type "list", dict := od, data := .seq vs nl, slots := osl } := Heap.get?_push_of_some _ getl
      have isl : (s.heap.push (set0 w)).IsList l vs := ⟨_, getl', rfl, nl, rfl⟩
      have n1_ := F.sub_list_set; have n2_ := F.sub_list_frozenset
      have n3_ : (Value.type "list" == Value.type "dict") = false := by decide
      unfold Builtin.«set.__init__» Builtin.Frozenset.updateFrom noKeywords
      generalize hit : pyIter = iter_
      wp_walk
      subst hit
      refine wpAny_pyIter_list isl (wpAny_bind (wpAny_runValue ?_))
      have lt_l : l < s.heap.objs.size := Heap.lt_size getl
      have sz1 : (s.heap.push (set0 w)).objs.size = s.heap.objs.size + 1 := Heap.size_push ..
      have ne_it : l ≠ (s.heap.push (set0 w)).objs.size := by rw [sz1]; exact Nat.ne_of_lt (Nat.lt_succ_of_lt lt_l)
      have out_ : s.heap.objs.size ∉ [(s.heap.push (set0 w)).objs.size, l] := fun z => by
        rw [sz1] at z
        rcases List.mem_cons.mp z with z | z
        · exact Nat.ne_of_lt (Nat.lt_succ_self _) z
        · exact Nat.ne_of_gt lt_l (List.mem_singleton.mp z)
      refine set_update_ints (Walks.list (by simp [hA]) _ l ne_it vs).toS _ out_ ns size_eq few ?_ vs.size 0 _ (Nat.sub_zero _) (Nat.zero_le _) ⟨⟨_, Heap.get?_push_size _ rfl, rfl, rfl⟩, isl.push _⟩ ?_ ?_
      · intro i v hiv
        have hi : i < ns.length := by rw [← size_eq]; exact (Array.getElem?_eq_some_iff.mp hiv).1
        obtain ⟨t, ht⟩ := hv.get i _ (List.getElem?_eq_getElem hi)
        rw [Array.getElem?_toList, hiv] at ht
        exact ⟨_, t, List.getElem?_eq_getElem hi, Option.some.inj ht⟩
      · exact ⟨0, Nat.le_refl _, setR_new_at (Heap.get?_push_of_some _ at0)⟩
      · intro s3 c mv hc hR
        obtain ⟨h3, g3, d3, t3, o3⟩ := s3
        obtain rfl : g3 = s.gens := mv.gens
        obtain rfl : d3 = s.drawn := mv.drawn
        obtain rfl : o3 = s.os := mv.os
        rw [size_eq] at hc
        refine wpAny_pure (wpAny_pure (And.intro rfl ⟨h3, t3, c, rfl, hR, hc, fun b o e => ?_⟩))
        have lt_b : b < s.heap.objs.size := Heap.lt_size e
        refine mv.heap b o (fun z => ?_) (Heap.get?_push_of_some _ (Heap.get?_push_of_some _ e))
        rw [sz1] at z
        rcases List.mem_cons.mp z with z | z
        · exact Nat.ne_of_lt lt_b z
        · exact Nat.ne_of_lt (Nat.lt_succ_of_lt lt_b) (List.mem_singleton.mp z)
    · intro res2 s2 h2
      match res2, h2 with
      | .error _, he => exact he
      | .ok .next, he => exact he.elim
      | .ok .brk, he => exact he.elim
      | .ok .cont, he => exact he.elim
      | .ok (.ret v2), ⟨e2, h', tk, c, e3, h4, h5, h6⟩ =>
        subst e2; subst e3
        (repeat (any_goals (first | assumption | wp_step)))
        exact k _ ⟨h', tk, c, rfl, h4, h5, h6⟩
end
section
variable {X : Cx}
/-- set(l) of a list of whole numbers, then the set stands there -/
def rSetI (K : PySem.W.Frag) (w : World) : List V → Hp → VK → Prop := fun xs H Q => ∃ (l : Addr) (ns : List Int), xs = [.ref l] ∧ SqL K H l (ns.map V.int) ∧ ns.length < 63 ∧
  ∀ (a : Addr) (c : Nat), H a = none → c ≤ ns.length → Q (.ref a) (upd H a (SetO w a (fun j => decide (j ∈ ns)) c))
theorem cr_setI {K : PySem.W.Frag} {w : World} (hK : X.K = K) (hw : X.w = w) (hc : X.calm = true) : CallR X (.type "set") (rSetI K w) := by
  subst hK; subst hw
  intro pins s σ H xs us Q I r h
  obtain ⟨l, ns, rfl, hl, hn, q⟩ := h
  rw [Vals.ref1 r]
  obtain ⟨its, rv, pl, hz⟩ := I.list hl
  have free_ : H s.heap.objs.size = none := I.hok.fresh (Nat.le_refl _)
  refine set_of_list (P := X.prog) (w := X.w) ns (I.ok.hd hc) pl.isList (by simpa using ints_of_vals rv) (by unfold scanBound; omega) fun s2 done => ?_
  obtain ⟨h', tk, c, rfl, R, hcn, kp⟩ := done
  exact ⟨.ref s.heap.objs.size, upd H s.heap.objs.size (SetO X.w s.heap.objs.size (fun j => decide (j ∈ ns)) c), I.laid (t' := tk) kp (Nat.le_refl _) (setO_new R), rfl, q _ c free_ hcn⟩
/-- sorted(s) of such a set -/
theorem cr_sortI {w : World} (hw : X.w = w) (hc : X.calm = true) : CallR X (.builtin "sorted") (rSortedSet w) := hw ▸ cr_sortedSet hc
end
end Env
end
section
set_option Elab.async false
set_option linter.all false
set_option maxRecDepth 100000
set_option maxHeartbeats 4000000
namespace Env
open PySem PySem.Spec PyProof.Rows L2
/-- a.update(b), two dicts of ints and texts -/
def tDUpd (td ty : L2.TE) : L2.TE := fun σ H Q => td σ H fun x H1 => ∃ a, x = .ref a ∧ IsD H1 a ∧ ty σ H1 fun y H2 => ∃ b kvs more, y = .ref b ∧ a ≠ b ∧ H2 a = some (.dK kvs) ∧ H2 b = some (.dK more) ∧
  kvs.length + more.length ≤ sizeLine ∧ (mergeK kvs more).length ≤ sizeLine ∧ Q .non (upd H2 a (.dK (mergeK kvs more)))
theorem pe_dupd {X : Cx} {o e : Expr} {apos cpos : Pos} {td ty : L2.TE} (ho : PE X o td) (he : PE X e ty) (m : M1 X o "update" apos e cpos) : PE X (.Call (.Attribute o "update" apos) [e] [] cpos) (tDUpd td ty) := by
  constructor
  intro pins s σ H Q I h
  refine wpAny_Call_method m.base m.few m.line F.plainAttrs_dict F.slot_dict_update F.type_dict_update (thn (ho.run pins s σ H _ I h) ?_)
  rintro u s1 ⟨x, H1, I1, rx, a, rfl, d, q1⟩
  obtain rfl : u = Value.ref a := rx
  obtain ⟨t1, t2, _⟩ := isD_at I1 d
  refine ⟨t1, t2, ?_⟩
  rw [m.trees]
  refine Calls.callWith_builtin rfl (Calls.evalArgs_plain (Calls.spliced_cons (thn (he.run pins s1 σ H1 _ I1 q1) ?_)))
  rintro iv s2 ⟨y, H2, I2, ry, b, kvs, more, rfl, nab, ha, hb, hz, hz2, q2⟩
  obtain rfl : iv = Value.ref b := ry
  refine Calls.spliced_nil ?_
  obtain ⟨za, ma, va, ra, da⟩ := dk_of I2.hok ha
  obtain ⟨zb, mb, vb, rb, db⟩ := dk_of I2.hok hb
  refine call_meetsIn F.slot_dict_update da.typeIs F.entry_dict_update (F.args_dict_update_2 _ _) (meets_dict_update (mixKind X.prog X.w) a b nab mb) ⟨va, vb, da, db, by rw [← ra.length, ← rb.length]; exact hz, fun h' d1 d2 hs => ?_⟩
  have there : ∃ q, h'.get? a = some q := let ⟨q, _, _, hq, _⟩ := d1; ⟨q, hq⟩
  exact ⟨.non, _, d_write I2 (by rw [ha]; exact True.intro) hs there (dk_new hz2 ma (KV.merge rb ra) d1), rfl, q2⟩
end Env
end
section
set_option Elab.async false
set_option linter.all false
set_option maxRecDepth 100000
set_option maxHeartbeats 4000000
namespace Env
open PySem PySem.Spec PyProof.Rows L2
/-- slots stored one by one -/
def setAll : L2.St → List Nat → List V → L2.St
  | σ, i :: is, v :: vs => setAll (σ.set i (some v)) is vs
  | σ, _, _ => σ
/-- names that take what stands at their place -/
inductive PNm (X : Cx) : List Pattern → List Str → List Nat → Prop where
  | nil : PNm X [] [] []
  | cons {x : Str} {p : Pos} {i : Nat} {ps : List Pattern} {ns : List Str} {is : List Nat} (hi : X.N[i]? = some x) (hx : Loc X.env.scope x) (hf : X.fn x = true ∨ X.env.scope.names.lookup x = some .local) (t : PNm X ps ns is) :
      PNm X (.MatchAs none (some x) p :: ps) (x :: ns) (i :: is)
theorem PNm.len {X : Cx} {ps : List Pattern} {ns : List Str} {is : List Nat} (h : PNm X ps ns is) : ps.length = is.length := by
  induction h with
  | nil => rfl
  | cons _ _ _ _ ih => exact congrArg (· + 1) ih
theorem PNm.len2 {X : Cx} {ps : List Pattern} {ns : List Str} {is : List Nat} (h : PNm X ps ns is) : ns.length = is.length := by
  induction h with
  | nil => rfl
  | cons _ _ _ _ ih => exact congrArg (· + 1) ih
section
variable {X : Cx} {A : Around} {E : Value → Shared → Prop}
theorem each_names {ps : List Pattern} {ns : List Str} {is : List Nat} (h : PNm X ps ns is) : ∀ {env : Env} {us : List Value} {s : Shared} {Q : Option (List (Str × Value)) → Shared → Prop}, us.length = ps.length → Q (some (ns.zip us)) s →
    wpAny (model X.prog X.w) A (matchEach ps env us) Q E s := by
  induction h with
  | nil =>
    intro env us s Q hl hq
    match us, hl with
    | [], _ => exact wpAny_matchEach_nil hq
  | cons hi hx hf t ih =>
    intro env us s Q hl hq
    match us, hl with
    | u :: r, hl =>
      refine wpAny_matchEach_cons (wpAny_matchPattern_Capture ?_)
      exact ih (Nat.succ.inj hl) hq
theorem bind_names {ps : List Pattern} {ns : List Str} {is : List Nat} (h : PNm X ps ns is) (hN : X.N.Nodup) : ∀ {pins : List (Addr × Obj)} {σ : L2.St} {H : Hp} {s : Shared} {vs : List V} {us : List Value} {Q : Unit → Shared → Prop}, Inv X pins σ H s → Vals vs us → us.length = ns.length →
    (∀ s', Inv X pins (setAll σ is vs) H s' → Q () s') → wpAny (model X.prog X.w) A (assignInOrder ((ns.zip us).map fun (n, _) => bindName X.env n) ((ns.zip us).map (·.2))) Q E s := by
  induction h with
  | nil =>
    intro pins σ H s vs us Q I r hl hq
    cases us with
    | nil => cases r; exact wpAny_pure (hq s I)
    | cons _ _ => cases hl
  | cons hi hx hf t ih =>
    intro pins σ H s vs us Q I r hl hq
    cases r with
    | nil => cases hl
    | cons r0 rt =>
      refine wpAny_bind (wpAny_holding (wpAny_bindName (store_ok I hN hi hx r0 (fun s' I' => ?_) hf)))
      exact ih I' rt (Nat.succ.inj hl) hq
/-- the cases of a match, one behind the other; t: what is asked of the subject -/
structure PCs (X : Cx) (cases : List MatchCase) (t : V → TS) : Prop where
  run : ∀ (first : Bool) (pins : List (Addr × Obj)) (s : Shared) (σ : L2.St) (H : Hp) (D : Ends) (v : V) (u : Value), Inv X pins σ H s → RelV v u → t v D σ H → wpAny (model X.prog X.w) X.A (matchCases cases X.env u first) (SP X pins D) X.xe s
def tMatch (te : L2.TE) (t : V → TS) : TS := fun D σ H => te σ H fun v H1 => t v D σ H1
theorem ps_match {e : Expr} {cases : List MatchCase} {pos : Pos} {te : L2.TE} {t : V → TS} (he : PE X e te) (hc : PCs X cases t) : PS X (.Match e cases pos) (tMatch te t) := by
  constructor
  intro pins s σ H D I h
  refine wpAny_Match (thn (he.run pins s σ H _ I h) ?_)
  rintro u s1 ⟨v, H1, I1, r1, q1⟩
  exact hc.run true pins s1 σ H1 D v u I1 r1 q1
theorem pcs_nil : PCs X [] (fun _ => tNext) := ⟨fun _ pins s σ H D v u I r h => wpAny_matchCases_nil ⟨σ, H, I, h⟩⟩
/-- case (word, name, ..): of a tuple that begins with a text -/
def tWord (K : PySem.W.Frag) (c : Str) (is : List Nat) (tb : TS) (tr : V → TS) : V → TS := fun v D σ H => ∃ (a : Addr) (z : Str) (xs : List V), v = .ref a ∧ SqT K H a (.str z :: xs) ∧ xs.length ≤ 100 ∧
  ((z = c ∧ xs.length = is.length) → tb D (setAll σ is xs) H) ∧ (¬ (z = c ∧ xs.length = is.length) → tr v D σ H)
theorem pcs_word {K : PySem.W.Frag} {c : Str} {j : Nat} {cp vp pos : Pos} {ps : List Pattern} {ns : List Str} {is : List Nat} {body : List Stmt} {rest : List MatchCase} {tb : TS} {tr : V → TS} (hK : X.K = K) (hc : X.calm = true) (hN : X.N.Nodup)
    (hp : PNm X ps ns is) (hb : PSs X body tb) (hr : PCs X rest tr) (hstar : (Pattern.MatchValue (.Constant (.str c) j cp) vp :: ps).findIdx? (·.isStar) = none := by rfl)
    (hwild : ((Pattern.MatchValue (.Constant (.str c) j cp) vp :: ps).all fun p => p.isWildcard || (p.isStar && p.names.isEmpty)) = false := by rfl) :
    PCs X (⟨.MatchSequence (.MatchValue (.Constant (.str c) j cp) vp :: ps) pos, none, body⟩ :: rest) (tWord K c is tb tr) := by
  subst hK
  constructor
  intro first pins s σ H D v u I r h
  obtain ⟨a, z, xs, rfl, ha, hxl, h1, h2⟩ := h
  cases r
  obtain ⟨its, rv, ht, hz⟩ := I.tuple ha
  have hlen := rv.length
  rw [List.length_cons] at hlen
  have pl := hp.len
  have fit : ((its.toArray.size : Nat) : Int) < 2 ^ 63 := by rw [List.size_toArray, ← hlen]; omega
  refine wpAny_matchCases_cons ?_
  have go_rest : ∀ tk, (¬ (z = c ∧ xs.length = is.length)) → wpAny (model X.prog X.w) X.A (matchCases rest X.env (.ref a) false) (SP X pins D) X.xe { s with toks := tk } := fun tk hn =>
    hr.run false pins _ σ H D (.ref a) (.ref a) (I.tok tk) rfl (h2 hn)
  by_cases hl : xs.length = is.length
  · refine matchSeq_tuple_hit ht fit (by rw [List.size_toArray, ← hlen, List.length_cons, pl, hl]) ?_ hstar hwild
    have un : ∀ (s0 : Shared) (Q : List Value → Shared → Prop), s0.heap = s.heap → (∀ h', Heap.ExtBut s0.heap.objs.size s0.heap h' → Q its { s0 with heap := h' }) → wpAny (model X.prog X.w) X.A (unpackItems (.ref a) its.toArray.size none) Q X.xe s0 := fun s0 Q e hq =>
      unpackItems_tuple (I.ok.hd hc) (by rw [e]; exact ht) (by simpa using hq)
    rw [show (Pattern.MatchValue (.Constant (.str c) j cp) vp :: ps).length = its.toArray.size by rw [List.size_toArray, ← hlen, List.length_cons, pl, hl]]
    refine un _ _ rfl fun h' ext => ?_
    cases rv with
    | cons r0 rt =>
      obtain ⟨t0, rfl⟩ := r0
      have kept : ∀ b o, s.heap.get? b = some o → h'.get? b = some o := fun b o e => ext b o (Nat.ne_of_lt (Heap.lt_size e)) e
      have I1 : ∀ tk, Inv X pins σ H { s with heap := h', toks := tk } := fun tk => I.kept (t' := tk) kept
      refine wpAny_matchEach_cons (wpAny_matchPattern_Value (Calls.Constant_str (eq_str (wpAny_truthy_bool ?_))))
      by_cases hzc : z = c
      · rw [if_pos (by rw [hzc]; exact beq_self_eq_true c)]
        refine each_names hp (by rw [← rt.length, hl, pl]) ?_
        have nl := hp.len2
        dsimp only [List.nil_append]
        refine bind_names hp hN (I1 _) rt (by rw [← rt.length, hl, nl]) fun s' I' => ?_
        exact hb.run pins s' _ H D I' (h1 ⟨hzc, hl⟩)
      · have nb : (z == c) = false := beq_eq_false_iff_ne.mpr hzc
        rw [nb]
        exact hr.run false pins _ σ H D (.ref a) (.ref a) (I1 _) rfl (h2 fun q => hzc q.1)
  · refine matchSeq_tuple_miss ht fit (by rw [List.size_toArray, ← hlen, List.length_cons, pl]; omega) ?_ hstar hwild
    exact go_rest _ fun q => hl q.2
end
section
variable {prog : Program} {w : World} {A : Around} {E : Value → Shared → Prop} {s : Shared}
/-- a, *rest = t -/
theorem unpack_star {t : Addr} {its : Array Value} {u : Value} {Q : List Value → Shared → Prop} (hA : A.handled = none) (ht : IsTup s.heap t its) (h0 : its.toList.take 1 = [u]) (few : its.size ≤ 16384)
    (hQ : ∀ (h2 : Heap) (tk : Nat), (∀ b o, s.heap.get? b = some o → h2.get? b = some o) → Q [u, .ref h2.objs.size] { s with heap := h2.push { cls := .type "list", data := .seq (its.toList.drop 1).toArray }, toks := tk }) :
    wpAny (model prog w) A (unpackItems (.ref t) 2 (some 1)) Q E s := by
  have its1 : 1 ≤ its.size := by have z := congrArg List.length h0; rw [List.length_take, Array.length_toList] at z; simp at z; omega
  have t_it : t ≠ s.heap.objs.size := Nat.ne_of_lt ht.lt
  unfold unpackItems notIterableAtAll
  refine wpAny_bind (wpAny_bind (wpAny_specialOf ht.typeIs slot_tuple_iter.lookup (wpAny_pure ?_)))
  simp only [Bool.false_eq_true, if_false]
  refine wpAny_bind (wpAny_holding (iter_tuple ht (wpAny_bind (wpAny_holding (draw_tuple t_it 1 0 _ _ ⟨_, Heap.get?_push_size _ rfl, rfl, rfl⟩ (ht.push _) (by omega) ?_)))))
  intro h1 it1 same1
  have t1 : IsTup h1 t its := (ht.push _).extBut same1.extBut t_it
  obtain ⟨o1, e1, c1, d1⟩ := id it1
  obtain ⟨o2, e2, c2⟩ := id t1
  rw [List.drop_zero, h0, if_neg (show ¬ [u].length < 1 from Nat.lt_irrefl 1)]
  have hsz1 : s.heap.objs.size < h1.objs.size := Heap.lt_size e1
  refine wpAny_bind (wpAny_holding (wpAny_collect_iter (s := { s with heap := h1 }) (T := "tuple_iterator") (.inr (.inr (.inr rfl))) (PySem.W.kun_shift (Walks.tuple (A := A.in1) hA s.heap.objs.size t t_it its) its1).toS (fun i v st => st.1.typeIs) (show _ from ⟨it1, t1⟩) ?_ (List.mem_cons_self ..) ?_ (by rw [sizeLine_eq]; omega)))
  · intro b hb
    rcases List.mem_cons.mp hb with rfl | hb
    · exact hsz1
    · rw [List.mem_singleton.mp hb]; exact Heap.lt_size e2
  · rintro ⟨h2, g2, d2, k2, o2⟩ acc mv ia
    obtain rfl : g2 = s.gens := mv.gens
    obtain rfl : d2 = s.drawn := mv.drawn
    obtain rfl : o2 = s.os := mv.os
    have hacc : acc.toList = its.toList.drop 1 := PySem.W.kun_acc its1 ia
    have hal : acc.toList.length ≤ 16384 := by rw [hacc, List.length_drop, Array.length_toList]; omega
    rw [if_neg (Nat.not_lt_zero _)]
    rw [show acc.toList.length - (2 - 1 - 1) = acc.toList.length from rfl, List.take_length, List.drop_length]
    refine wpAny_bind (wpAny_newList (wpAny_pure ?_) (by rw [sizeLine_eq]; omega))
    rw [hacc]
    refine hQ h2 k2 fun b o e => ?_
    have e3 : h1.get? b = some o := same1.extBut b o (Nat.ne_of_lt (Heap.lt_size e)) (Heap.get?_push_of_some _ e)
    exact mv.heap b o (fun z => absurd (List.mem_singleton.mp z) (Nat.ne_of_lt (Heap.lt_size e))) e3
end
section
variable {X : Cx}
/-- case (name, *names): of a tuple that isn't empty -/
def tHead (K : PySem.W.Frag) (is : List Nat) (tb : TS) : V → TS := fun v D σ H => ∃ (a : Addr) (z : V) (xs : List V), v = .ref a ∧ SqT K H a (z :: xs) ∧ xs.length ≤ 100 ∧ ∀ L, H L = none → tb D (setAll σ is [z, .ref L]) (upd H L (.lst xs))
theorem pcs_head {K : PySem.W.Frag} {x y : Str} {p1 p2 pos : Pos} {i j : Nat} {body : List Stmt} {rest : List MatchCase} {tb : TS} (hK : X.K = K) (hc : X.calm = true) (hN : X.N.Nodup)
    (hp : PNm X [.MatchAs none (some x) p1, .MatchAs none (some y) p2] [x, y] [i, j]) (hb : PSs X body tb) :
    PCs X (⟨.MatchSequence [.MatchAs none (some x) p1, .MatchStar (some y) p2] pos, none, body⟩ :: rest) (tHead K [i, j] tb) := by
  subst hK
  constructor
  intro first pins s σ H D v u I r h
  obtain ⟨a, z, xs, rfl, ha, hxl, hq⟩ := h
  cases r
  obtain ⟨its, rv, ht, hz⟩ := I.tuple ha
  have hlen := rv.length
  rw [List.length_cons] at hlen
  refine wpAny_matchCases_cons ?_
  refine PySem.W.kun_seqT (i := 1) ht (by rw [List.size_toArray, ← hlen]; omega) rfl rfl rfl (show 2 > 1 by decide) (by show 2 ≤ _; rw [List.size_toArray]; omega) ?_
  cases rv with
  | @cons _ u0 _ ur r0 rt =>
    refine unpack_star (u := u0) (I.ok.hd hc) ht rfl (by rw [List.size_toArray, ← hlen]; omega) fun h2 tk kept => ?_
    refine wpAny_matchEach_cons (wpAny_matchPattern_Capture (PySem.W.kun_each (wpAny_matchEach_nil ?_)))
    have I1 : Inv X pins σ H { s with heap := h2, toks := tk } := I.kept (t' := tk) kept
    have hf : H h2.objs.size = none := I1.hok.fresh (Nat.le_refl _)
    have I2 := I1.laid (a := h2.objs.size) (o := .lst xs) (t' := tk) (fun b u e => Heap.get?_push_of_some { cls := .type "list", data := .seq (List.drop 1 (u0 :: ur).toArray.toList).toArray } e) (Nat.le_refl _)
      ⟨Nat.le_trans hxl (by rw [sizeLine_eq]; decide), ur, 0, rt, Heap.get?_push_size _ rfl⟩
    have rv2 : Vals [z, V.ref h2.objs.size] [u0, Value.ref h2.objs.size] := .cons r0 (.cons (show L2.RelV (V.ref h2.objs.size) (Value.ref h2.objs.size) from rfl) .nil)
    exact bind_names hp hN I2 rv2 rfl fun s' I' => hb.run pins s' _ _ D I' (hq _ hf)
end
end Env
end
section
set_option Elab.async false
set_option linter.all false
set_option maxRecDepth 100000
set_option maxHeartbeats 4000000
namespace Env
open PySem PySem.Spec PyProof.Rows L2
section
variable {prog : Program} {w : World} {A : Around} {E : Value → Shared → Prop} {s : Shared}
abbrev MK (prog : Program) (w : World) := mixKind prog w
/-- a key with its worth put into a dict of ints and texts -/
theorem put_pair {d : Addr} {kvs : List (Key × Value)} {k : Key} {x v : Value} {Q : Unit → Shared → Prop} (hx : (MK prog w).is k x = true) (hm : s.heap.DictOf (MK prog w) d kvs) (hz : kvs.length ≤ sizeLine)
    (hQ : ∀ h', h'.DictOf (MK prog w) d (stored kvs k v) → Heap.SameBut d s.heap h' → Q () { s with heap := h' }) : wpAny (model prog w) A (dictPut d ((MK prog w).hash k) x v) Q E s := by
  obtain ⟨ob, es, ep, a1, a2, a3, a4, a5, a6⟩ := hm
  have a7 : es.size ≤ sizeLine := by
    have q1 := a5.length
    have q2 : es.toList.length = es.size := by simp
    omega
  have ix : (es.findIdx? fun e => (MK prog w).is k e.key) = kvs.findIdx? fun kv => decide (kv.1 = k) := by
    have := a5.findIdx k
    rw [← this]
    obtain ⟨l⟩ := es
    simp
  unfold dictPut
  refine wpAny_bind (wpAny_dictFind_of hx a1 a3 a4 ?_)
  cases hi : es.findIdx? fun e => (MK prog w).is k e.key with
  | some i =>
    have yes := any_of_findIdx_some (ix ▸ hi)
    refine wpAny_updateDict a1 a3 (hQ _ ⟨_, _, ep, Heap.get?_update_self _ a1 (Obj.isFreed_of_dict (Obj.data_mapDict a3 _)), a2.mapDict _, Obj.data_mapDict a3 _, a4.modify _ _, ?_, ?_⟩ (Heap.SameBut.update ..))
    · rw [stored, if_pos yes]
      have hl : (es.toList.findIdx? fun e => (MK prog w).is k e.key) = some i := by
        rw [← hi]
        obtain ⟨l⟩ := es
        simp
      have q := a5.modify a6 hl v
      obtain ⟨l⟩ := es
      simpa using q
    · rw [stored, if_pos yes, keys_map_store]
      exact a6
  | none =>
    have no : k ∉ kvs.map (·.1) := not_mem_of_findIdx_none (ix ▸ hi)
    have nany : ¬ (kvs.any fun kv => decide (kv.1 = k)) = true := fun q => by
      obtain ⟨kv, m, e⟩ := List.any_eq_true.mp q
      exact no (List.mem_map.mpr ⟨kv, m, of_decide_eq_true e⟩)
    refine wpAny_updateDictKeys (hz := a7) a1 a3 (hQ _ ⟨_, _, ep + 1, Heap.get?_update_self _ a1 (Obj.isFreed_of_dict (Obj.data_mapDictKeys a3 _)), a2.mapDictKeys _, Obj.data_mapDictKeys a3 _, a4.push hx _, ?_, ?_⟩ (Heap.SameBut.update ..))
    · rw [stored, if_neg nany]
      have q := a5.append hx ((MK prog w).hash k) v
      obtain ⟨l⟩ := es
      simpa using q
    · rw [stored, if_neg nany, List.map_append]
      refine List.nodup_append.mpr ⟨a6, by simp, fun a ha b hb e => ?_⟩
      have hb2 : b = k := List.mem_singleton.mp hb
      exact no (by rw [← hb2, ← e]; exact ha)
/-- one dict laid over another -/
theorem merge_plain {d o : Addr} {kvs more : List (Key × Value)} {Q : Unit → Shared → Prop} (hdo : d ≠ o) (ho : (o == sysModules) = false) (hd : s.heap.DictOf (MK prog w) d kvs) (hm : s.heap.DictOf (MK prog w) o more) (hz : kvs.length + more.length ≤ sizeLine)
    (hQ : ∀ h', h'.DictOf (MK prog w) d (merged kvs more) → h'.DictOf (MK prog w) o more → Heap.SameBut d s.heap h' → Q () { s with heap := h' }) : wpAny (model prog w) A (mergeMapping d (.ref o) false) Q E s := by
  have hmt := hm.typeIs
  obtain ⟨ob, es, ep, a1, a2, a3, a4, a5, a6⟩ := id hm
  obtain ⟨ob2, es2, ep2, b1, b2, b3, b4, b5, b6⟩ := id hd
  have hlen : more.length = es.size := by rw [← a5.length]; simp
  have norefs : ∀ e ∈ es.toList, ∀ p, e.key ≠ .ref p := fun e he p q => by
    obtain ⟨k, hk, _⟩ := a4 e (by simpa using he)
    rw [q] at hk
    rcases keyIs_shape hk with ⟨i, t, _, z⟩ | ⟨x, t, _, z⟩ <;> cases z
  unfold mergeMapping
  refine wpAny_bind (wpAny_isInstance hmt isSubtype_dict_dict ?_)
  rw [if_pos rfl]
  refine wpAny_bind (wpAny_specialOf hmt F.slot_dict_iter.lookup ?_)
  refine wpAny_bind (wpAny_pure ?_)
  rw [show ((some (Value.builtin "dict.__iter__") : Option Value) == some (.builtin "dict.__iter__")) = true from beq_self_eq_true _]
  dsimp only
  rw [if_neg (by rw [ho]; exact Bool.false_ne_true)]
  refine wpAny_bind (wpAny_dictEntries b1 b3 ?_)
  have fin : wpAny (model prog w) A (do
      let q ← dictEntries o
      let epoch ← dictEpoch o
      forIn (List.range q.size) PUnit.unit fun i (_ : PUnit) => (do
        let l ← dictEntries o
        match l[i]? with
        | some e => do
          holding [e.key, e.val] (dictPut d e.hash e.key e.val)
          let now ← dictEpoch o
          if (now != epoch) = true then do
            (unsupported "dict.changed-during-merge" : Sem PUnit)
            pure (ForInStep.yield PUnit.unit)
          else pure (ForInStep.yield PUnit.unit)
        | _ => do
          (unsupported "dict.changed-during-merge" : Sem PUnit)
          pure (ForInStep.yield PUnit.unit) : Sem (ForInStep PUnit))
      pure ()) Q E s := by
    refine wpAny_bind (wpAny_dictEntries a1 a3 (wpAny_bind (wpAny_dictEpoch a1 a3 (wpAny_bind ?_))))
    refine wpAny_forIn_list _ (fun rest _ s' => ∃ h' i, s' = { s with heap := h' } ∧ rest = (List.range es.size).drop i ∧ i ≤ es.size ∧ h'.DictOf (MK prog w) d (merged kvs (more.take i)) ∧ h'.get? o = some ob ∧ Heap.SameBut d s.heap h') _ ?_ ?_ _ _
      ⟨s.heap, 0, rfl, rfl, Nat.zero_le _, hd, a1, Heap.SameBut.refl _ _⟩
    · rintro x rest b s' ⟨h', i, rfl, hr, hi, c1, c2, c3⟩
      have lt : i < es.size := by
        rcases Nat.lt_or_ge i es.size with q | q
        · exact q
        · rw [List.drop_eq_nil_of_le (by rw [List.length_range]; exact q)] at hr; cases hr
      rw [List.drop_eq_getElem_cons (by rw [List.length_range]; exact lt), List.getElem_range] at hr
      obtain ⟨rfl, hr2⟩ := List.cons.inj hr
      refine wpAny_bind (wpAny_dictEntries c2 a3 ?_)
      rw [Array.getElem?_eq_getElem lt]
      obtain ⟨⟨k, v⟩, hkv⟩ : ∃ kv, more[x]? = some kv := ⟨_, List.getElem?_eq_getElem (by rw [hlen]; exact lt)⟩
      obtain ⟨e1, e2⟩ := a5.get? (e := es[x]) (by simp [lt]) hkv
      obtain ⟨k2, f1, f2⟩ := a4 es[x] (Array.getElem_mem lt)
      obtain rfl : k2 = k := (MK prog w).inj _ _ _ f1 e1
      dsimp only
      rw [f2, e2]
      have l1 := merged_length_le kvs (more.take x)
      rw [List.length_take] at l1
      refine wpAny_bind (wpAny_holding (put_pair e1 c1 (by omega) fun h2 d1 d2 => ?_))
      have o2 : h2.get? o = some ob := (d2.2 o (Ne.symm hdo)).trans c2
      refine wpAny_bind (wpAny_dictEpoch o2 a3 ?_)
      rw [if_neg (by simp)]
      exact wpAny_pure ⟨h2, x + 1, rfl, hr2, lt, by rw [merged_take_succ kvs more x (k2, v) hkv]; exact d1, o2, c3.trans d2⟩
    · rintro b s' ⟨h', i, rfl, hr, hi, c1, c2, c3⟩
      have ei : i = es.size := by
        have q := congrArg List.length hr
        rw [List.length_drop, List.length_range, List.length_nil] at q
        omega
      rw [ei, ← hlen, List.take_length] at c1
      exact wpAny_pure (hQ h' c1 ⟨ob, es, ep, c2, a2, a3, a4, a5, a6⟩ c3)
  by_cases he : es2.isEmpty = true
  · rw [if_pos he]
    refine wpAny_bind (wpAny_dictEntries a1 a3 ?_)
    refine wpAny_bind ?_
    rw [← Array.forIn_toList]
    refine wpAny_forIn_list _ (fun rest _ s' => s' = s ∧ ∀ e ∈ rest, e ∈ es.toList) _ ?_ ?_ _ _ ⟨rfl, fun e q => q⟩
    · rintro x rest b s' ⟨rfl, hr⟩
      have nr := norefs x (hr x List.mem_cons_self)
      split
      · rename_i p hp
        exact absurd hp (nr p)
      · exact wpAny_pure ⟨rfl, fun e q => hr e (List.mem_cons_of_mem _ q)⟩
    · rintro b s' ⟨rfl, _⟩
      exact fin
  · rw [if_neg he]
    exact fin
end
end Env
end
section
set_option Elab.async false
set_option linter.all false
set_option maxRecDepth 100000
set_option maxHeartbeats 4000000
namespace Env
open PySem PySem.Spec PyProof.Rows L2
section
variable {X : Cx}
/-- {**o, k: v}: a new dict -/
def tDOver (td tk tv : L2.TE) : L2.TE := fun σ H Q => ∀ d, H d = none → td σ (upd H d (.dK [])) fun x H1 => ∃ a kvs, x = .ref a ∧ a ≠ d ∧ H1 d = some (.dK []) ∧ H1 a = some (.dK kvs) ∧ kvs.length ≤ 1000 ∧
  ∀ b, upd H1 d (.dK kvs) b = none → tk σ (upd (upd H1 d (.dK kvs)) b (.dK [])) fun y H2 => ∃ key, y = kV key ∧ tv σ H2 fun v H3 => H3 d = some (.dK kvs) ∧ H3 b = some (.dK []) ∧
    Q (.ref d) (upd (upd H3 b (.dK [(key, v)])) d (.dK (putK kvs key v)))
theorem pe_dover {o k v : Expr} {pos : Pos} {td tk tv : L2.TE} (ho : PE X o td) (hk : PE X k tk) (hv : PE X v tv) : PE X (.Dict [none, some k] [o, v] pos) (tDOver td tk tv) := by
  constructor
  intro pins s σ H Q I h
  rw [arm_eval_Dict]
  refine wpAny_bind (wpAny_standAt ?_)
  show wpAny _ _ (dictDisplay [(none, do let x ← eval o X.env; standAt pos; pure x), (some (eval k X.env), do let x ← eval v X.env; standAt pos; pure x)]) _ _ _
  unfold dictDisplay
  dsimp only
  rw [List.forIn_cons]
  refine wpAny_bind (wpAny_bind (wpAny_bind (wpAny_pure ?_)))
  dsimp only
  refine wpAny_bind (wpAny_alloc ?_)
  have hf : H s.heap.objs.size = none := I.hok.fresh (Nat.le_refl _)
  have big : (s.heap.objs.size == sysModules) = false := beq_eq_false_iff_ne.mpr (Nat.ne_of_gt I.big)
  have hd := h _ hf
  have I0 := I.laid (a := s.heap.objs.size) (o := .dK []) (t' := s.toks) (fun _ _ q => Heap.get?_push_of_some { cls := .type "dict", data := .dict #[] } q) (Nat.le_refl _) (dk_empty s.heap I.big)
  generalize s.heap.objs.size = d at hf big hd I0 ⊢
  clear h hf I
  refine wpAny_bind (wpAny_holding (wpAny_bind (thn (ho.run pins _ σ _ _ I0 hd) ?_)))
  rintro u s1 ⟨x, H1, I1, r1, a, kvs, rfl, nad, h1, h2, hz, q⟩
  obtain rfl : u = Value.ref a := r1
  refine wpAny_bind (wpAny_standAt (wpAny_pure ?_))
  obtain ⟨_, _, ve, re, de⟩ := dk_of I1.hok h1
  obtain ⟨_, hsys, vs, rv, dv⟩ := dk_of I1.hok h2
  obtain rfl : ve = [] := by cases re; rfl
  have nd : (vs.map (·.1)).Nodup := let ⟨_, _, _, _, _, _, _, _, z⟩ := dv; z
  have vl := rv.length
  refine wpAny_bind (wpAny_onRaise (wpAny_tryCatch (wpAny_onRaise (wpAny_holding (merge_plain (Ne.symm nad) hsys de dv (by rw [List.length_nil, ← vl, sizeLine_eq]; omega) fun h' d1 d2 d3 => ?_)))))
  rw [merged_nil_of_nodup vs nd] at d1
  have there : ∃ q, h'.get? d = some q := let ⟨q, _, _, hq, _⟩ := d1; ⟨q, hq⟩
  have I2 := d_write (t' := s1.toks) I1 (by rw [h1]; exact True.intro) d3 there (dk_new (H' := upd H1 d (.dK kvs)) (kvs := kvs) (by rw [sizeLine_eq]; omega) big rv d1)
  refine wpAny_pure ?_
  dsimp only
  rw [List.forIn_cons]
  dsimp only
  rw [if_neg (show ¬ ((([] ++ [(eval k X.env, (do let x ← eval v X.env; standAt pos; pure x : Sem Value))] : List (Sem Value × Sem Value)).length == 17) = true) from Bool.false_ne_true)]
  refine wpAny_bind (wpAny_pure ?_)
  dsimp only
  rw [List.forIn_nil]
  refine wpAny_pure ?_
  dsimp only
  rw [if_neg (show ¬ (([] ++ [(eval k X.env, (do let x ← eval v X.env; standAt pos; pure x : Sem Value))] : List (Sem Value × Sem Value)).isEmpty = true) from Bool.false_ne_true)]
  refine wpAny_bind (wpAny_bind (wpAny_holding ?_))
  unfold subDict
  have hfb : upd H1 d (.dK kvs) h'.objs.size = none := I2.hok.fresh (Nat.le_refl _)
  have bigb : (h'.objs.size == sysModules) = false := beq_eq_false_iff_ne.mpr (Nat.ne_of_gt I2.big)
  have I3 := I2.laid (a := h'.objs.size) (o := .dK []) (t' := s1.toks) (fun _ _ q => Heap.get?_push_of_some { cls := .type "dict", data := .dict #[] } q) (Nat.le_refl _) (dk_empty h' I2.big)
  have qb := q _ hfb
  refine wpAny_bind (wpAny_alloc ?_)
  dsimp only at I3 ⊢
  generalize h'.objs.size = b at hfb bigb I3 qb ⊢
  have nbd : b ≠ d := fun z => by rw [z, upd_same] at hfb; cases hfb
  clear q hfb
  refine wpAny_bind (wpAny_holding ?_)
  rw [if_pos (show ([] ++ [(eval k X.env, (do let x ← eval v X.env; standAt pos; pure x : Sem Value))] : List (Sem Value × Sem Value)).length ≤ 15 from Nat.le_of_ble_eq_true rfl)]
  refine wpAny_bind (evalPairs_cons (thn (hk.run pins _ σ _ _ I3 qb) ?_))
  rintro uk s4 ⟨y, H4, I4, ry, key, rfl, qv⟩
  refine wpAny_bind (thn (hv.run pins s4 σ H4 _ I4 qv) ?_)
  rintro uv s5 ⟨z, H5, I5, rz, hd5, hb5, qq⟩
  refine wpAny_bind (wpAny_standAt (wpAny_pure ?_))
  refine evalPairs_nil (wpAny_holding (wpAny_bind ?_))
  obtain ⟨_, _, vb, rb, db⟩ := dk_of I5.hok hb5
  obtain rfl : vb = [] := by cases rb; rfl
  rw [List.forIn_cons]
  refine wpAny_bind (wpAny_bind (wpAny_dictSet_pairs (k := key) (hsz := Nat.zero_le _) (kV_is ry) db fun h6 e1 e2 => wpAny_pure ?_))
  dsimp only
  rw [List.forIn_nil]
  refine wpAny_pure (wpAny_pure (wpAny_pure ?_))
  have there6 : ∃ q, h6.get? b = some q := let ⟨q, _, _, hq, _⟩ := e1; ⟨q, hq⟩
  have I6 := d_write (t' := s5.toks + 1) I5 (by rw [hb5]; exact True.intro) e2 there6 (dk_new (H' := upd H5 b (.dK [(key, z)])) (kvs := [(key, z)]) (by rw [sizeLine_eq]; exact Nat.le_of_ble_eq_true rfl) bigb (.cons ⟨rfl, rz⟩ .nil) e1)
  have hd6 : upd H5 b (.dK [(key, z)]) d = some (.dK kvs) := by rw [upd_ne (Ne.symm nbd)]; exact hd5
  obtain ⟨_, _, v6, r6, dd6⟩ := dk_of I6.hok hd6
  obtain ⟨_, _, w6, q6, db6⟩ := dk_of I6.hok (a := b) upd_same
  have l6 := r6.length
  have m6 := q6.length
  refine wpAny_bind (wpAny_onRaise (wpAny_holding (merge_plain (Ne.symm nbd) bigb dd6 db6 (by rw [← l6, ← m6, sizeLine_eq, List.length_singleton]; omega) fun h7 f1 f2 f3 => ?_)))
  have there7 : ∃ q, h7.get? d = some q := let ⟨q, _, _, hq, _⟩ := f1; ⟨q, hq⟩
  have r7 : KV (putK kvs key z) (merged v6 w6) := KV.merge (more := [(key, z)]) q6 r6
  have l7 := length_putK kvs key z
  have I7 := d_write (t' := s5.toks + 1) I6 (by rw [hd6]; exact True.intro) f3 there7 (dk_new (H' := upd (upd H5 b (.dK [(key, z)])) d (.dK (putK kvs key z))) (kvs := putK kvs key z) (by rw [sizeLine_eq]; omega) big r7 f1)
  exact wpAny_pure (wpAny_pure ⟨.ref d, _, I7, rfl, qq⟩)
end
end Env
end
section
set_option Elab.async false
set_option linter.all false
set_option maxRecDepth 100000
set_option maxHeartbeats 4000000
namespace Env
open PySem PySem.Spec PyProof.Rows L2
/-- a set of whole numbers, its members by a list -/
abbrev SO (w : World) (D : Addr) (ns : List Int) (c : Nat) : HO := SetO w D (fun j => decide (j ∈ ns)) c
/-- {elt for tg in iter if ..}, elt a whole number; D: the new set -/
def tSetI (w : World) (wi : TI) (g : TG) (tt : TT) (te : L2.TE) (vs : List Nat) : L2.TE := fun σ H Q =>
  wi σ H fun J H1 => ∀ D, H1 D = none → ∃ W : Nat → Nat → Hp → Prop, (∃ m, W 0 m (upd H1 D (SO w D [] 0))) ∧
    ∀ i m H, W i m H → (J.stop i H ∧ Q (.ref D) H) ∨ (J.go i H ∧ ∃ Nx : Hp → Prop, (∀ H', Nx H' → ∃ m', m' < m ∧ W (i + 1) m' H') ∧
      ∀ x H', J.yld i H x H' → g x (wipe σ vs) H' fun σ2 H2 => wipe σ2 vs = wipe σ vs ∧ tt σ2 H2 fun b H3 =>
        if b = true then te σ2 H3 fun y H4 => ∃ (k : Int) (ns : List Int) (c : Nat), y = .int k ∧ H4 D = some (SO w D ns c) ∧ c + 1 < scanBound ∧ ∀ c', c' ≤ c + 1 → Nx (upd H4 D (SO w D (ns ++ [k]) c'))
        else Nx H3)
section
variable {X : Cx} {elt tg iter : Expr} {ifs : List Expr} {sc : Scope} {own : List (PySem.Str × Nat)} {pos : Pos} {wi : TI} {g : TG} {tt : TT} {te : L2.TE}
/-- what is asked of the block's parts -/
structure Blk (X : Cx) (elt tg : Expr) (ifs : List Expr) (sc : Scope) (g : TG) (tt : TT) (te : L2.TE) : Prop where
  g : ∀ s H C cl fp, PG (X.blk s H sc (compEnvC sc cl C X.env) fp) tg g
  t : ∀ s H C cl fp, PTs (X.blk s H sc (compEnvC sc cl C X.env) fp) ifs tt
  e : ∀ s H C cl fp, PE (X.blk s H sc (compEnvC sc cl C X.env) fp) elt te
/-- the block's frame and its state, laid -/
abbrev envB (X : Cx) (sc : Scope) (s : Shared) : Env := compEnvC sc (cellsFrom (s.heap.objs.size + 1) sc.names (cloFrom X.env.cells sc.names [])) s.heap.objs.size X.env
abbrev shB (sc : Scope) (s : Shared) : Shared := { s with heap := pushCells (s.heap.push { cls := .type "dict", data := .dict #[] }) sc.names }
abbrev objB (w : World) : Obj := { cls := .type "set", dict := none, data := .set #[] 0 (.fresh 0 0 (!w.params.followText "set-order")) }
/-- a member more -/
theorem add_int {Y : Cx} {pins : List (Addr × Obj)} {σ : L2.St} {H : Hp} {s : Shared} {D : Addr} {ns : List Int} {c : Nat} {k : Int} {u : Value} {Q : VK} (I : Inv Y pins σ H s) (hD : H D = some (SO Y.w D ns c)) (room : c + 1 < scanBound) (ru : L2.RelV (.int k) u)
    (h : ∀ c', c' ≤ c + 1 → Q .non (upd H D (SO Y.w D (ns ++ [k]) c'))) : wpAny (model Y.prog Y.w) Y.A (call (.builtin "set.add") [.ref D, u]) (EP Y pins σ Q) Y.xe s := by
  have step := mt_sadd (X := Y) pins s σ H (.ref D) [.int k] (.ref D) [u] Q I rfl (.cons ru .nil)
  refine step ⟨D, k, _, c, rfl, rfl, hD, room, ?_⟩
  have same : (fun j => decide (j ∈ ns) || decide (j = k)) = fun j => decide (j ∈ ns ++ [k]) := funext fun j => by simp [List.mem_append]
  rw [same]
  exact h _ (by split <;> omega)
theorem pe_setI (hc : X.calm = true) (hN : X.N.Nodup) (hi : PI X tg iter wi) (ok : BlkOk X.N X.env.scope sc own) (B : Blk X elt tg ifs sc g tt te) (hs : ∀ x, foldedSetIterable iter X.env x = pure x := by intro _; rfl) :
    PE X (.SetComp elt [⟨tg, iter, ifs, 0⟩] sc pos) (tSetI X.w wi g tt te (own.map (·.2))) := by
  constructor
  intro pins s σ H Q I h
  rw [PpSet.eval_SetComp]
  have cells : ∀ y ∈ sc.names, y.2 = .free → ∃ c, X.env.cells.lookup y.1 = some c := fun y my ey => (ok.free y my ey).elim (fun k => I.ok.has _ (.inl k)) fun k => I.ok.has _ (.inr k)
  refine wpAny_comprehension_free rfl hs (closure_ok cells) ok.kind (fun y my ey => by rw [ok.uniq y my, ey]) (thn (hi.run pins s σ H _ I h) fun _ _ hx => thn hx fun _ s2 h2 => ?_)
  obtain ⟨it, fp, tn, J, H2, rfl, I2, T, at2, fp2, q⟩ := h2
  refine PpSet.newSet_ok (newEnv_comp ?_)
  have free2 : H2 s2.heap.objs.size = none := I2.hok.fresh (Nat.le_refl _)
  obtain ⟨W, ⟨m0, w0⟩, turns⟩ := q _ free2
  have I3 := I2.laid (a := s2.heap.objs.size) (o := SO X.w s2.heap.objs.size [] 0) (t' := s2.toks)
    (fun b o e => Heap.get?_push_of_some { cls := .type "set", dict := none, data := .set #[] 0 (.fresh 0 0 (!X.w.params.followText "set-order")) } e) (Nat.le_refl _)
    (setO_new (by have z := setR_fresh (h := s2.heap) X.w; simpa using z))
  have low : ∀ b ∈ fp, b < s2.heap.objs.size := fun b mb => let ⟨_, e, _⟩ := T.obj _ _ at2 b mb; Heap.lt_size e
  generalize hD : s2.heap.objs.size = D at I3 free2 w0 turns low ⊢
  have sz3 : (s2.heap.push (objB X.w)).objs.size = D + 1 := by rw [Heap.size_push, hD]
  have at3 : tn 0 (s2.heap.push (objB X.w)) := T.keep _ _ _ at2 fun b _ o e => Heap.get?_push_of_some _ e
  generalize hs3 : ({ s2 with heap := s2.heap.push (objB X.w) } : Shared) = s3 at I3 ⊢
  have h3 : s3.heap = s2.heap.push (objB X.w) := by rw [← hs3]
  rw [← h3] at sz3 at3
  have fp3 : ∀ b ∈ fp, FpOk X pins (upd H2 D (SO X.w D [] 0)) b ∧ b < s3.heap.objs.size := fun b mb =>
    ⟨⟨by rw [upd_ne (Nat.ne_of_lt (low b mb))]; exact (fp2 b mb).1, (fp2 b mb).2⟩, by rw [sz3]; exact Nat.lt_succ_of_lt (low b mb)⟩
  generalize hH3 : upd H2 D (SO X.w D [] 0) = H3 at I3 w0 fp3
  have I4 := block_start I3 ok hN fp3
  have bg := B.g s3 H3 s3.heap.objs.size (cellsFrom (s3.heap.objs.size + 1) sc.names (cloFrom X.env.cells sc.names [])) fp
  have bt := B.t s3 H3 s3.heap.objs.size (cellsFrom (s3.heap.objs.size + 1) sc.names (cloFrom X.env.cells sc.names [])) fp
  have be := B.e s3 H3 s3.heap.objs.size (cellsFrom (s3.heap.objs.size + 1) sc.names (cloFrom X.env.cells sc.names [])) fp
  show codeAny _ _ (.compStart (.SetComp elt [⟨tg, iter, ifs, 0⟩] sc pos) 0 (.ref it) (.ref D) (compEnvC sc (cellsFrom (s3.heap.objs.size + 1) sc.names (cloFrom X.env.cells sc.names [])) s3.heap.objs.size X.env)) (compPost (model X.prog X.w) X.A X.xe none (EP X pins σ Q) (.ref D) s3.heap.objs.size) ({ s3 with heap := pushCells (s3.heap.push { cls := .type "dict", data := .dict #[] }) sc.names } : Shared)
  have ceL : (compEnvC sc (cellsFrom (s3.heap.objs.size + 1) sc.names (cloFrom X.env.cells sc.names [])) s3.heap.objs.size X.env).locals = s3.heap.objs.size := rfl
  have at4 : tn 0 ({ s3 with heap := pushCells (s3.heap.push { cls := .type "dict", data := .dict #[] }) sc.names } : Shared).heap := T.keep _ _ _ at3 fun b _ o e => pushCells_keeps _ _ _ _ (Heap.get?_push_of_some _ e)
  generalize compEnvC sc (cellsFrom (s3.heap.objs.size + 1) sc.names (cloFrom X.env.cells sc.names [])) s3.heap.objs.size X.env = ce at I4 bg bt be ceL ⊢
  generalize ({ s3 with heap := pushCells (s3.heap.push { cls := .type "dict", data := .dict #[] }) sc.names } : Shared) = s4 at I4 at4 ⊢
  have nfp : ∀ b ∈ fp, H3 b = none := fun b mb => (fp3 b mb).1.1
  have spare : ∀ {σ' : L2.St} {H' : Hp} {s' : Shared}, Inv (X.blk s3 H3 sc ce fp) [] σ' H' s' → (∀ b ∈ fp, H' b = none) → ∀ b ∈ fp, FpOk (X.blk s3 H3 sc ce fp) [] H' b := fun V n b mb =>
    ⟨n b mb, (V.ok.exf b mb).1, V.ok.exfs b mb, Or.inl mb, fun x c e => (V.ok.exf b mb).2 x c e, fun p mp => absurd mp (by show p ∉ ([] ++ [] : List (Addr × Obj)); simp)⟩
  refine (fun loop => PpSet.codeAny_compStart_set loop (T.self X.A 0 _ _ _ at4 loop)) ?_
  refine PpSet.compLoopS_any (fun n s' => ∃ i H', Inv (X.blk s3 H3 sc ce fp) [] (wipe σ (own.map (·.2))) H' s' ∧ tn i s'.heap ∧ (∀ b ∈ fp, H' b = none) ∧ W i n H') ?_ m0 ⟨0, H3, I4, at4, nfp, w0⟩
  rintro n s5 ⟨i, H5, I5, at5, n5, w5⟩
  rcases turns i n H5 w5 with ⟨stop, fin⟩ | ⟨go, Nx, less, step⟩
  · refine thnF (T.done (X.blk s3 H3 sc ce fp) rfl rfl rfl hc i [] s5 _ H5 (fun _ _ => False) I5 (spare I5 n5) at5 stop) ?_
    rintro r s6 ⟨rfl, I6⟩
    have I7 : Inv X pins σ H5 s6 := I3.call' (ch := fp) I6.os I6.base I6.hok I6.bare fun b mb => let ⟨⟨_, f1, _, f3, f4, f5⟩, _⟩ := fp3 b mb; ⟨f3, f1, f4, f5⟩
    have nC : H5 s3.heap.objs.size = none := ceL ▸ (show H5 ce.locals = none from I6.free)
    obtain ⟨m, ns6, _⟩ := I6.loc
    have ns7 : s6.heap.Ns s3.heap.objs.size m := ceL ▸ (show s6.heap.Ns ce.locals m from ns6)
    obtain ⟨f0, f1, _, f3, f4, f5⟩ := I3.fpOk (Nat.le_refl _) nC
    exact ⟨m, ns7, fun h'' sb => ⟨.ref D, H5, I7.turned (t' := s6.toks) (fun b o nb e => (sb.2 b nb).trans e) f0 f1 f3 f4 f5, rfl, fin⟩⟩
  · refine thnF (T.item (X.blk s3 H3 sc ce fp) rfl rfl rfl hc i [] s5 _ H5 (fun _ _ => False) I5 (spare I5 n5) at5 go) ?_
    rintro r s6 ⟨u, rfl, h6⟩
    refine thnF h6 ?_
    rintro _ s7 ⟨x, H7, I7, r7, y7, at7, n7⟩
    refine thnF (bg.run _ s7 _ H7 x u _ (I7.pinned (spare I7 n7) (T.obj _ _ at7)) r7 (step x H7 y7)) ?_
    rintro _ s8 ⟨σ8, H8, I8, w8, q8⟩
    refine thnF (bt.run _ s8 σ8 H8 _ I8 q8) ?_
    rintro b s9 ⟨H9, I9, q9⟩
    have ends : ∀ {s' : Shared} {H' : Hp}, Inv (X.blk s3 H3 sc ce fp) ([] ++ pinsAt fp s7.heap) σ8 H' s' → Nx H' → ∃ m, m < n ∧ ∃ i H', Inv (X.blk s3 H3 sc ce fp) [] (wipe σ (own.map (·.2))) H' s' ∧ tn i s'.heap ∧ (∀ b ∈ fp, H' b = none) ∧ W i m H' := by
      intro s' H' V nx
      obtain ⟨m', lt, w'⟩ := less H' nx
      have held : ∀ b ∈ fp, ∀ o, s7.heap.get? b = some o → s'.heap.get? b = some o ∧ H' b = none := fun b mb o e =>
        let ⟨z1, z2, _⟩ := V.pin (b, o) (List.mem_append_right _ (List.mem_append_right _ (mem_pinsAt mb e)))
        ⟨z1, z2⟩
      refine ⟨m', lt, i + 1, H', (V.unpinned (pins := [])).weak (by rw [← w8, wipe_length]) (fun j v e => ?_), T.keep _ _ _ at7 fun b mb o e => (held b mb o e).1, fun b mb => ?_, w'⟩
      · rw [← w8] at e
        exact (wipe_some e).1
      · obtain ⟨o, e, _⟩ := T.obj _ _ at7 b mb
        exact (held b mb o e).2
    by_cases hb : b = true
    · subst hb
      rw [if_pos rfl] at q9 ⊢
      refine thnF (be.run _ s9 σ8 H9 _ I9 q9) ?_
      rintro z s10 ⟨yv, H10, I10, r10, k, ks, c, rfl, hD10, room, nx⟩
      refine thnF (add_int (Y := X.blk s3 H3 sc ce fp) I10 hD10 room r10 (Q := fun _ H' => Nx H') nx) ?_
      rintro _ s11 ⟨_, H11, I11, _, nx11⟩
      exact ends I11 nx11
    · rw [if_neg hb] at q9 ⊢
      exact ends I9 q9
end
end Env
end
section
set_option Elab.async false
set_option linter.all false
set_option maxRecDepth 100000
set_option maxHeartbeats 4000000
namespace Env
open PySem PySem.Spec PyProof.Rows L2
/-! ### dicts whose keys are ints and None (leaves) -/
def lV : Leaf → V
  | .none => .non
  | .num i => .int i
  | .text x => .str x
theorem lV_is {P : Program} {w : World} {k : Leaf} {u : Value} (h : RelV (lV k) u) : (leafKind P w).is k u = true := by
  cases k with
  | none => obtain rfl : u = Value.none := h; rfl
  | num i => obtain ⟨t, rfl⟩ : ∃ t, u = Value.int i t := h; exact decide_eq_true rfl
  | text x => obtain ⟨t, rfl⟩ : ∃ t, u = Value.str x t := h; show (x == x) = true; simp
def LDp (P : Program) (w : World) (d : Addr) (kvs : List (Leaf × V)) (es : Array DictEntry) (ep : Nat) (h : Heap) : Prop :=
  kvs.length ≤ sizeLine ∧ (d == sysModules) = false ∧ h.DictRaw d es ep ∧ es.size = kvs.length ∧ ∃ vs, KV kvs vs ∧ h.DictOf (leafKind P w) d vs ∧ ∀ i (hi : i < es.size) k v, vs[i]? = some (k, v) → es[i].val = v
/-- a dict at d of ints and None, its entries es -/
def LD (P : Program) (w : World) (d : Addr) (kvs : List (Leaf × V)) (es : Array DictEntry) (ep : Nat) : HO := .ext (LDp P w d kvs es ep)
/-- some such dict -/
def IsLD (P : Program) (w : World) (H : Hp) (d : Addr) (kvs : List (Leaf × V)) : Prop := ∃ es ep, H d = some (LD P w d kvs es ep)
theorem ld_of {P : Program} {w : World} {H : Hp} {h : Heap} {d : Addr} {kvs : List (Leaf × V)} {es : Array DictEntry} {ep : Nat} (ok : HOk P w H h) (e : H d = some (LD P w d kvs es ep)) : LDp P w d kvs es ep h := (ok d _ e).1
theorem ld_new {P : Program} {w : World} {h' : Heap} {d : Addr} {kvs : List (Leaf × V)} {vs : List (Leaf × Value)} (z : kvs.length ≤ sizeLine) (hd : (d == sysModules) = false) (rel : KV kvs vs) (dd : h'.DictOf (leafKind P w) d vs) :
    ∃ es ep, ∀ H', ObjOk P w H' h' d (LD P w d kvs es ep) := by
  obtain ⟨es, ep, hr, hs, he⟩ := dd.raw
  have there : ∃ q, h'.get? d = some q := let ⟨q, _, _, hq, _⟩ := dd; ⟨q, hq⟩
  refine ⟨es, ep, fun H' => ⟨⟨z, hd, hr, by rw [hs]; exact rel.length.symm, vs, rel, dd, fun i hi k v hk => (he i hi k v hk).2⟩, there, fun h1 h2 p k => ?_⟩⟩
  obtain ⟨a, b, c, d, vs, e, f, g⟩ := p
  exact ⟨a, b, c.at k, d, vs, e, let ⟨o, es, ep, x, r⟩ := f; ⟨o, es, ep, k _ x, r⟩, g⟩
section
variable {X : Cx} {o i e value : Expr} {pos pos' tpos : Pos} {td ty tv tk : L2.TE}
/-- d[k] -/
def tLGet (P : Program) (w : World) (td ty : L2.TE) : L2.TE := fun σ H Q => td σ H fun x H1 => ty σ H1 fun y H2 => ∃ a kvs k v, x = .ref a ∧ IsLD P w H2 a kvs ∧ y = lV k ∧ valV kvs k = some v ∧ Q v H2
theorem pe_lget {P : Program} {w : World} (hP : X.prog = P) (hw : X.w = w) (ho : PE X o td) (hi : PE X i ty) (hs : NoSl i) : PE X (.Subscript o i pos) (tLGet P w td ty) := by
  subst hP hw
  refine ⟨fun pins s σ H Q I h => ?_⟩
  refine subD_of PySem.F.slot_dict_getitem.lookup hs (thn (ho.run pins s σ H _ I h) fun u s1 ⟨x, H1, I1, rx, q1⟩ => thn (hi.run pins s1 σ H1 _ I1 q1) fun iv s2 ⟨y, H2, I2, ry, a, kvs, k, v, ex, ⟨es, ep, hd⟩, ey, hv, q2⟩ => ?_)
  subst ex ey
  obtain rfl : u = Value.ref a := rx
  obtain ⟨z, hsys, hr, hl, vs, rel, dd, _⟩ := ld_of I2.hok hd
  obtain ⟨w', hw, rw'⟩ := RelO.some_of (v := v) (o := valueAt vs k) (by rw [← hv]; exact rel.val k)
  exact ⟨hr.typeIs, wpAny_getItem_of (lV_is ry) dd.mapOf hw ⟨v, H2, I2.tok _, rw', q2⟩⟩
/-- d[k] = v -/
def sLPut (P : Program) (w : World) (td ty tv : L2.TE) : TS := fun D σ H => tv σ H fun v H1 => td σ H1 fun x H2 => ty σ H2 fun y H3 => ∃ a kvs k, x = .ref a ∧ IsLD P w H3 a kvs ∧ y = lV k ∧ kvs.length < sizeLine ∧ ∀ H4, (∀ b, b ≠ a → H4 b = H3 b) → IsLD P w H4 a (putK kvs k v) → D.nx σ H4
theorem ps_lput {P : Program} {w : World} (hP : X.prog = P) (hw : X.w = w) (ho : PE X o td) (hi : PE X i ty) (hv : PE X value tv) (hs : swapsWith value (some (.Subscript o i pos')) pos.line X.env = pure false) :
    PS X (.Assign [.Subscript o i pos'] value pos) (sLPut P w td ty tv) := by
  subst hP hw
  refine ⟨fun pins s σ H D I h => ?_⟩
  refine wpAny_Assign_Subscript (thn (hv.run pins s σ H _ I h) fun r s1 ⟨v, H1, I1, rv, q1⟩ => thn (ho.run pins s1 σ H1 _ I1 q1) fun u s2 ⟨x, H2, I2, rx, q2⟩ => thn (hi.run pins s2 σ H2 _ I2 q2) fun iv s3 ⟨y, H3, I3, ry, a, kvs, k, ex, ⟨es, ep, hd⟩, ey, hlt, q3⟩ => ?_) hs
  subst ex ey
  obtain rfl : u = Value.ref a := rx
  obtain ⟨z, hsys, hr, hl, vs, rel, dd, _⟩ := ld_of I3.hok hd
  have hl2 : (putK kvs k v).length ≤ sizeLine := by have := length_putK kvs k v; omega
  refine wpAny_setItem_pairs (hsz := by rw [← rel.length]; exact z) (lV_is ry) dd fun h' dd' hs => ?_
  have there : ∃ q, h'.get? a = some q := let ⟨q, _, _, hq, _⟩ := dd'; ⟨q, hq⟩
  obtain ⟨es', ep', ok'⟩ := ld_new hl2 hsys (rel.put k rv) dd'
  exact ⟨σ, _, d_write I3 (by rw [hd]; exact True.intro) hs there (ok' _), q3 _ (fun b nb => upd_ne nb) ⟨es', ep', upd_same⟩⟩
/-- {k: v}: a new dict with one pair -/
def tLDisp (P : Program) (w : World) (tk tv : L2.TE) : L2.TE := fun σ H Q => ∀ p, H p = none → ∀ H1, (∀ b, b ≠ p → H1 b = H b) → IsLD P w H1 p [] → tk σ H1 fun y H2 => tv σ H2 fun v H3 => ∃ k, y = lV k ∧ IsLD P w H3 p [] ∧
  ∀ H4, (∀ b, b ≠ p → H4 b = H3 b) → IsLD P w H4 p [(k, v)] → Q (.ref p) H4
theorem pe_ldisp {P : Program} {w : World} (hP : X.prog = P) (hw : X.w = w) (hk : PE X i tk) (hv : PE X value tv) : PE X (.Dict [some i] [value] pos) (tLDisp P w tk tv) := by
  subst hP hw
  refine ⟨fun pins s σ H Q I q => ?_⟩
  have hn := I.hok.fresh (Nat.le_refl s.heap.objs.size)
  obtain ⟨es0, ep0, ok0⟩ := ld_new (P := X.prog) (w := X.w) (h' := s.heap.push { cls := .type "dict", data := .dict #[] }) (d := s.heap.objs.size) (kvs := []) (vs := []) (Nat.zero_le _) (beq_eq_false_iff_ne.mpr (Nat.ne_of_gt I.big)) .nil (Heap.DictOf.new s.heap)
  have I1 := I.laid (a := s.heap.objs.size) (o := LD X.prog X.w s.heap.objs.size [] es0 ep0) (h' := s.heap.push { cls := .type "dict", data := .dict #[] }) (t' := s.toks) (fun _ _ q => Heap.get?_push_of_some _ q) (Nat.le_refl _) (ok0 _)
  have q0 := q _ hn (upd H s.heap.objs.size (LD X.prog X.w s.heap.objs.size [] es0 ep0)) (fun b nb => upd_ne nb) ⟨_, _, upd_same⟩
  refine wpAny_Dict_walk (knd := leafKind X.prog X.w) rfl rfl (fun z => nomatch z) (Nat.le_of_ble_eq_true rfl) (thn ((pps_cons (pos := pos) hk hv pps_nil).run pins _ σ _ (fun ps H3 => match ps with
    | [(y, v)] => ∃ k, y = lV k ∧ IsLD X.prog X.w H3 s.heap.objs.size [] ∧ ∀ H4, (∀ b, b ≠ s.heap.objs.size → H4 b = H3 b) → IsLD X.prog X.w H4 s.heap.objs.size [(k, v)] → Q (.ref s.heap.objs.size) H4
    | _ => False) I1 q0) fun ws s2 ⟨ps, H2, I2, rel, q2⟩ => ?_)
  match ps, rel, q2 with
  | [(y, v)], @Paired.cons _ _ _ _ (b1, b2) _ _ r t, q2 =>
    obtain ⟨k, ey, ⟨es, ep, hd⟩, q2⟩ := q2
    subst ey
    cases t
    obtain ⟨z, hsys, hr, hl, vs, rl, dd, _⟩ := ld_of I2.hok hd
    obtain rfl : vs = [] := by cases rl; rfl
    refine ⟨[(k, b2)], ⟨lV_is r.1, rfl, True.intro⟩, dd, fun h' dd' hs => ?_⟩
    have there : ∃ q, h'.get? s.heap.objs.size = some q := let ⟨q, _, _, hq, _⟩ := dd'; ⟨q, hq⟩
    obtain ⟨es', ep', ok'⟩ := ld_new (kvs := [(k, v)]) (by rw [sizeLine_eq]; exact Nat.le_of_ble_eq_true rfl) hsys (.cons ⟨rfl, r.2⟩ .nil) dd'
    exact ⟨.ref s.heap.objs.size, _, d_write I2 (by rw [hd]; exact True.intro) hs there (ok' _), rfl, q2 _ (fun b nb => upd_ne nb) ⟨es', ep', upd_same⟩⟩
/-! ### the values of such a dict -/
/-- the view d.values() -/
def VW (r d : Addr) : HO := .ext fun h => h.IsValuesView r d
theorem vw_ok {P : Program} {w : World} {H : Hp} {h : Heap} {r d : Addr} (hv : h.IsValuesView r d) : ObjOk P w H h r (VW r d) :=
  ⟨hv, let ⟨o, ho, _⟩ := hv; ⟨o, ho⟩, fun _ _ p k => let ⟨o, ho, x⟩ := p; ⟨o, k _ ho, x⟩⟩
def tLVals (P : Program) (w : World) (td : L2.TE) : L2.TE := fun σ H Q => td σ H fun x H1 => ∃ d kvs, x = .ref d ∧ IsLD P w H1 d kvs ∧ ∀ r, H1 r = none → Q (.ref r) (upd H1 r (VW r d))
theorem pe_lvals {P : Program} {w : World} {apos cpos : Pos} (hP : X.prog = P) (hw : X.w = w) (he : PE X e td) (hbase : attributeBase e "values" X.env (eval e X.env) = eval e X.env := by rfl) (hline : (apos.endLine == cpos.line) = true := by rfl) : PE X (.Call (.Attribute e "values" apos) [] [] cpos) (tLVals P w td) := by
  subst hP hw
  refine ⟨fun pins s σ H Q I h => ?_⟩
  refine wpAny_Call_method (T := "dict") (id := "dict.values") hbase rfl hline F.plainAttrs_dict F.slot_dict_values F.type_dict_values (thn (he.run pins s σ H _ I h) fun u s1 ⟨x, H1, I1, rx, d, kvs, ex, ⟨es, ep, hd⟩, q⟩ => ?_)
  subst ex
  obtain rfl : u = Value.ref d := rx
  obtain ⟨z, hsys, hr, hl, vs, rl, dd, _⟩ := ld_of I1.hok hd
  refine ⟨hr.typeIs, dd.mapOf.noDict, ?_⟩
  show wpAny _ _ (callWith cpos (.builtin "dict.values") [.ref d] [] []) _ X.xe s1
  refine method_meetsIn F.slot_dict_values F.entry_dict_values rfl (PySem.evalArgs_none ⟨rfl, hr.typeIs, F.args_dict_values_1 _, _, meets_dict_values_raw d hsys, ⟨es, ep, hr⟩, ?_⟩)
  have hn := I1.hok.fresh (Nat.le_refl s1.heap.objs.size)
  exact ⟨.ref s1.heap.objs.size, _, I1.laid (a := s1.heap.objs.size) (o := VW s1.heap.objs.size d) (h' := s1.heap.push { cls := .type "dict_values", data := .fields #[.ref d] }) (t' := s1.toks) (fun _ _ q => Heap.get?_push_of_some _ q) (Nat.le_refl _) (vw_ok ⟨_, Heap.get?_push_size _ rfl, rfl, rfl⟩), rfl, q _ hn⟩
/-- list(d.values()) -/
theorem vals_at : ∀ {xs : List V} {us : List Value}, xs.length = us.length → (∀ (i : Nat) (x : V) (u : Value), xs[i]? = some x → us[i]? = some u → RelV x u) → Vals xs us
  | [], [], _, _ => .nil
  | x :: xs, u :: us, hl, h => .cons (h 0 x u rfl rfl) (vals_at (Nat.succ.inj hl) fun i x u a b => h (i + 1) x u a b)
  | [], _ :: _, hl, _ => nomatch hl
  | _ :: _, [], hl, _ => nomatch hl
theorem kvl_get : ∀ {kvs : List (Leaf × V)} {vs : List (Leaf × Value)} {i : Nat} {p : Leaf × V}, KV kvs vs → kvs[i]? = some p → ∃ q, vs[i]? = some q ∧ p.1 = q.1 ∧ RelV p.2 q.2
  | _, _, _, _, .nil, h => by simp at h
  | _, _, 0, p, .cons r _, h => by cases h; exact ⟨_, rfl, r⟩
  | _, _, i + 1, p, .cons _ t, h => kvl_get (i := i) t h
theorem items_vals {es : Array DictEntry} {kvs : List (Leaf × V)} {vs : List (Leaf × Value)} {acc : Array Value} (hl : es.size = kvs.length) (rel : KV kvs vs) (hv : ∀ i (hi : i < es.size) k v, vs[i]? = some (k, v) → es[i].val = v)
    (h : ItemsOf (fun i v => ∃ hi : i < es.size, v = es[i].val) acc es.size) : Vals (kvs.map (·.2)) acc.toList := by
  refine vals_at (by rw [List.length_map, Array.length_toList]; exact hl.symm.trans h.1.symm) fun i x u hx hu => ?_
  rw [List.getElem?_map] at hx
  obtain ⟨p, hp, rfl⟩ := Option.map_eq_some_iff.mp hx
  obtain ⟨q, hq, e1, e2⟩ := kvl_get rel hp
  obtain ⟨hi, e3⟩ := h.2 i u (by rw [← Array.getElem?_toList]; exact hu)
  rw [e3, hv i hi q.1 q.2 hq]
  exact e2
def rListVals (P : Program) (w : World) : List V → Hp → VK → Prop := fun xs H Q => ∃ r d kvs, xs = [.ref r] ∧ H r = some (VW r d) ∧ IsLD P w H d kvs ∧ ∀ p, H p = none → Q (.ref p) (upd H p (.lst (kvs.map (·.2))))
theorem call_listVals {P : Program} {w : World} (hP : X.prog = P) (hw : X.w = w) (hcalm : X.calm = true) : CallR X (.type "list") (rListVals P w) := by
  subst hP hw
  intro pins s σ H xs us Q I r q
  obtain ⟨a, d, kvs, ex, ha, ⟨es, ep, hd⟩, q⟩ := q
  subst ex
  obtain ⟨u, eu, rx⟩ := vals1 r
  subst eu
  cases rx
  obtain ⟨z, lo, hr, hl, vs, rel, dd, hv⟩ := ld_of I.hok hd
  have hvw : s.heap.IsValuesView a d := (I.hok a _ ha).1
  refine PySem.W.kdl_call (PySem.KdlSrc.rawValues (es := es) (ep := ep)) (I.ok.hd hcalm) ⟨hvw, hr⟩ (by rw [hl]; exact z) fun h' tk acc c' hk hD hacc => ?_
  refine ⟨.ref s.heap.objs.size, upd H s.heap.objs.size (.lst (kvs.map (·.2))), I.laid (t' := tk) hk (Nat.le_refl _)
    (show ObjOk X.prog X.w _ _ _ (.lst (kvs.map (·.2))) from ⟨by rw [List.length_map]; exact z, acc.toList, c', items_vals hl rel hv hacc, by rw [Array.toArray_toList]; exact hD⟩), rfl, q _ (I.hok.fresh (Nat.le_refl _))⟩
/-! ### for x in d.values() -/
def Itvl (P : Program) (w : World) (d : Addr) (kvs : List (Leaf × V)) (es : Array DictEntry) (ep : Nat) : It :=
  ⟨fun i H => H d = some (LD P w d kvs es ep) ∧ i < kvs.length, fun i H x H' => H' = H ∧ ∃ k, kvs[i]? = some (k, x), fun i H => H d = some (LD P w d kvs es ep) ∧ kvs.length ≤ i⟩
theorem turn_lvals {P : Program} {w : World} {K : PySem.W.Frag} {tg : Expr} {d : Addr} {kvs : List (Leaf × V)} {es : Array DictEntry} {ep : Nat} (it : Addr) : Turn P w K tg (Itvl P w d kvs es ep) [it] it (fun i h => h.IsValIter it d i kvs.length ep) where
  mem := by simp
  obj := fun i h st b hb => by
    have e : b = it := by simpa using hb
    subst e
    obtain ⟨oi, e, c, dd⟩ := st
    exact ⟨oi, e, fun v z => by rw [dd] at z; cases z⟩
  keep := fun i h h' st k => st.at fun oi e => k it (by simp) oi e
  item := by
    intro X hP hw hK hc i pins s σ H E I hf st hg
    subst hP hw hK
    obtain ⟨hd, hi⟩ := hg
    obtain ⟨f0, f1, f2, f3, f4, f5⟩ := hf it (by simp)
    obtain ⟨z, lo, hr, hl, vs, rel, dd, hv⟩ := ld_of I.hok hd
    obtain ⟨⟨k, v⟩, hkv⟩ : ∃ p, kvs[i]? = some p := ⟨kvs[i], List.getElem?_eq_getElem hi⟩
    obtain ⟨q, hq, e1, e2⟩ := kvl_get rel hkv
    have hi' : i < es.size := by omega
    rw [← hl] at st
    refine wpAny_pyNext_values_item_raw st hr hi' fun h' st' sb => ?_
    have I1 : Inv X pins σ H { s with heap := h' } := I.turned (t' := s.toks) (fun b ob hb e => (sb.2 b hb).trans e) f0 f1 f3 f4 f5
    obtain ⟨oi, e, c, dd'⟩ := id st'
    refine ⟨es[i].val, rfl, go_of (s := { s with heap := h' }) e c dd' (by decide) ⟨v, H, I1, by rw [hv i hi' q.1 q.2 hq]; exact e2, ⟨rfl, k, hkv⟩, ?_, fun b hb => (hf b hb).1⟩⟩
    show h'.IsValIter it d (i + 1) kvs.length _
    rw [← hl]
    exact st'
  done := by
    intro X hP hw hK hc i pins s σ H E I hf st hg
    subst hP hw hK
    obtain ⟨hd, hi⟩ := hg
    obtain ⟨f0, f1, f2, f3, f4, f5⟩ := hf it (by simp)
    obtain ⟨z, lo, hr, hl, vs, rel, dd, hv⟩ := ld_of I.hok hd
    rw [← hl] at st
    exact wpAny_pyNext_values_end_raw (I.ok.hd hc) st hr (by omega) fun h' eb => ⟨rfl, I.turned (t' := s.toks) (fun b ob hb e => eb b ob hb e) f0 f1 f3 f4 f5⟩
  self := fun A i s Q E st h => wpAny_pyIter_valiter st h
def iLVals (P : Program) (w : World) (td : L2.TE) : TI := fun σ H R => td σ H fun x H1 => ∃ d kvs es ep, x = .ref d ∧ H1 d = some (LD P w d kvs es ep) ∧ R (Itvl P w d kvs es ep) H1
theorem pi_lvals {P : Program} {w : World} {tg : Expr} {apos cpos : Pos} (hP : X.prog = P) (hw : X.w = w) (he : PE X e td) (hbase : attributeBase e "values" X.env (eval e X.env) = eval e X.env := by rfl) (hline : (apos.endLine == cpos.line) = true := by rfl) : PI X tg (.Call (.Attribute e "values" apos) [] [] cpos) (iLVals P w td) := by
  subst hP hw
  refine ⟨fun pins s σ H R I h => ?_⟩
  refine wpAny_Call_method (T := "dict") (id := "dict.values") hbase rfl hline F.plainAttrs_dict F.slot_dict_values F.type_dict_values (thn (he.run pins s σ H _ I h) fun u s1 ⟨x, H1, I1, rx, d, kvs, es, ep, ex, hd, q⟩ => ?_)
  subst ex
  obtain rfl : u = Value.ref d := rx
  obtain ⟨z, lo, hr, hl, vs, rel, dd, hv⟩ := ld_of I1.hok hd
  refine ⟨hr.typeIs, dd.mapOf.noDict, ?_⟩
  have I2 : Inv X pins σ H1 { s1 with heap := s1.heap.push { cls := .type "dict_values", data := .fields #[.ref d] } } := I1.kept (t' := s1.toks) fun b ob q => Heap.get?_push_of_some _ q
  have fin : wpAny (model X.prog X.w) X.A (pyIter (.ref s1.heap.objs.size)) (PIE X pins σ tg R) X.xe { s1 with heap := s1.heap.push { cls := .type "dict_values", data := .fields #[.ref d] } } := by
    refine wpAny_pyIter_values_raw (d := d) ⟨_, Heap.get?_push_size _ rfl, rfl, rfl⟩ (hr.push _) (pi_one (tk := s1.toks) I2 _ (turn_lvals _) ⟨_, Heap.get?_push_size _ rfl, rfl, ?_⟩ q)
    rw [hl] <;> rfl
  show wpAny _ _ (callWith cpos (.builtin "dict.values") [.ref d] [] []) _ X.xe s1
  exact method_meetsIn F.slot_dict_values F.entry_dict_values rfl (PySem.evalArgs_none ⟨rfl, hr.typeIs, F.args_dict_values_1 _, _, meets_dict_values_raw d lo, ⟨es, ep, hr⟩, fin⟩)
/-- a comprehension over them -/
theorem lc_lvals {P : Program} {w : World} {d : Addr} {kvs : List (Leaf × V)} {es : Array DictEntry} {ep : Nat} {g : TG} {tt : TT} {te : L2.TE} {vs : List Nat} {σ : L2.St} {H1 : Hp} {D : Addr} {Qd : Hp → Prop} (Pv : Nat → Hp → Prop) (h0 : Pv 0 (upd H1 D (.lst []))) (hl : ∀ i H, i ≤ kvs.length → Pv i H → H d = some (LD P w d kvs es ep))
    (hs : ∀ i k x H, kvs[i]? = some (k, x) → Pv i H → g x (wipe σ vs) H fun σ2 H2 => wipe σ2 vs = wipe σ vs ∧ tt σ2 H2 fun b H3 =>
      if b = true then te σ2 H3 fun y H4 => ∃ acc, H4 D = some (.lst acc) ∧ acc.length < sizeLine ∧ Pv (i + 1) (upd H4 D (.lst (acc ++ [y]))) else Pv (i + 1) H3) (hd : ∀ H, Pv kvs.length H → Qd H) :
    ∃ W : Nat → Nat → Hp → Prop, (∃ m, W 0 m (upd H1 D (.lst []))) ∧ ∀ i m H, W i m H →
      ((Itvl P w d kvs es ep).stop i H ∧ Qd H) ∨ ((Itvl P w d kvs es ep).go i H ∧ ∃ Nx : Hp → Prop, (∀ H', Nx H' → ∃ m', m' < m ∧ W (i + 1) m' H') ∧ ∀ x H', (Itvl P w d kvs es ep).yld i H x H' → g x (wipe σ vs) H' fun σ2 H2 => wipe σ2 vs = wipe σ vs ∧ tt σ2 H2 fun b H3 =>
        if b = true then te σ2 H3 fun y H4 => ∃ acc, H4 D = some (.lst acc) ∧ acc.length < sizeLine ∧ Nx (upd H4 D (.lst (acc ++ [y]))) else Nx H3) := by
  refine ⟨fun i m H => m = kvs.length - i ∧ i ≤ kvs.length ∧ Pv i H, ⟨_, rfl, Nat.zero_le _, h0⟩, ?_⟩
  rintro i m H ⟨rfl, hi, p⟩
  have q := hl i H hi p
  rcases Nat.lt_or_ge i kvs.length with lt | ge
  · refine .inr ⟨⟨q, lt⟩, Pv (i + 1), fun H' p' => ⟨kvs.length - (i + 1), by omega, rfl, lt, p'⟩, ?_⟩
    rintro x H' ⟨rfl, k, hk⟩
    exact hs i k x _ hk p
  · obtain rfl : i = kvs.length := Nat.le_antisymm hi ge
    exact .inl ⟨⟨q, Nat.le_refl _⟩, hd H p⟩
end
end Env
end
section
set_option Elab.async false
set_option linter.all false
set_option maxRecDepth 100000
set_option maxHeartbeats 4000000
namespace Env
open PySem L2
local macro_rules | `(tactic| walk_at "side") => `(tactic| first
  | assumption
  | ((try dsimp only); omega)
  | decide
  | exact ⟨by omega, by omega⟩
  | exact .inr ⟨by decide, by decide⟩
  | exact .inl ⟨by omega, by omega⟩)
local macro_rules | `(tactic| walk_at "rd1") => `(tactic| first
  | with_reducible refine Exists.intro _ (And.intro rfl ?_)
  | refine Exists.intro _ (And.intro rfl ?_)
  | refine ⟨_, _, rfl, rfl, ?_⟩
  | refine And.intro rfl ?_
  | refine ⟨_, _, _, _, rfl, rfl, SqL.of (by assumption), rfl, ?_⟩
  | refine ⟨_, _, _, _, rfl, rfl, SqL.of upd_same, rfl, ?_⟩
  | refine And.intro (szb rfl) ?_
  | refine And.intro (Or.inl (And.intro rfl (Exists.intro _ (SqL.of (by assumption))))) ?_
  | refine Or.inl (Exists.intro _ (And.intro rfl ?_))
  | refine Or.inr (Exists.intro _ (And.intro rfl ?_))
  | refine And.intro (by walk_at "side") ?_
  | refine ⟨_, _, _, _, rfl, rfl, (by assumption), rfl, ?_⟩
  | refine ⟨_, _, _, _, rfl, rfl, upd_same, rfl, ?_⟩
  | refine ⟨_, _, rfl, .inl (SqL.of (by assumption)), ?_⟩
  | refine ⟨_, _, rfl, .inl (SqL.of upd_same), ?_⟩
  | refine ⟨_, _, rfl, .inl (by assumption), ?_⟩)
local macro_rules | `(tactic| walk_at "rd") => `(tactic| repeat walk_at "rd1")
local macro_rules | `(tactic| walk_at "ds") => `(tactic| dsimp only [tNil, tCons, tC, tNoPart, tPart, tCB, tOp, tTest, tB, tCall, List.nil_append, List.cons_append, List.append_nil])
local macro_rules | `(tactic| walk_at "tup") => `(tactic| (intro t nt))

/-! ### of L1 -/
section
variable {P : Program} {w : World} {K : PySem.W.Frag} {mg : Str → Option Value} {base : Heap}
def spTaken (K : PySem.W.Frag) : Sp := fun vs H Q _ => ∃ (r : Addr) (s : Scr) (n : Int), vs = [.ref r, .int n] ∧ RowAt K r s H ∧ 0 < n ∧ n < 1073741824 ∧
  ∀ (z : Int) (H' : Hp), 0 ≤ z → z < n → RowAt K r s H' → Ext [r] H H' → Q (.int z) H'
end
/-! ### of L2 -/
/-- the sort of a name in a scope -/
def lk (f : List (Int × Int)) (k : Int) : Option Int := (f.find? fun p => decide (p.1 = k)).map (·.2)
theorem lk_valV (f : List (Int × Int)) (k : Int) : valV (f.map fun p => ((Sum.inl p.1 : Key), V.int p.2)) (Sum.inl k) = (lk f k).map V.int := by
  induction f with
  | nil => rfl
  | cons p r ih =>
    by_cases e : p.1 = k
    · rw [List.map_cons, valV_pos (by rw [e])]
      unfold lk
      rw [List.find?_cons]
      simp [e]
    · rw [List.map_cons, valV_neg (fun z => e (Sum.inl.inj z)), ih]
      unfold lk
      rw [List.find?_cons]
      simp [e]
/-- one name more -/
def pt (f : List (Int × Int)) (k v : Int) : List (Int × Int) := if (f.any fun p => decide (p.1 = k)) = true then f.map (fun p => if p.1 = k then (p.1, v) else p) else f ++ [(k, v)]
theorem pt_putK (f : List (Int × Int)) (k v : Int) : putK (f.map fun p => ((Sum.inl p.1 : Key), V.int p.2)) (Sum.inl k) (.int v) = (pt f k v).map fun p => ((Sum.inl p.1 : Key), V.int p.2) := by
  unfold putK pt
  have e : ((f.map fun p => ((Sum.inl p.1 : Key), V.int p.2)).any fun kv => decide (kv.1 = Sum.inl k)) = f.any fun p => decide (p.1 = k) := by
    rw [List.any_map]
    congr 1
    funext p
    by_cases h : p.1 = k <;> simp [h]
  rw [e]
  by_cases h : (f.any fun p => decide (p.1 = k)) = true
  · rw [if_pos h, if_pos h, List.map_map, List.map_map]
    congr 1
    funext p
    by_cases q : p.1 = k <;> simp [q]
  · rw [if_neg h, if_neg h, List.map_append]
    rfl
theorem lk_pt (f : List (Int × Int)) (k v j : Int) : lk (pt f k v) j = if j = k then some v else lk f j := by
  have h := valV_put (f.map fun p => ((Sum.inl p.1 : Key), V.int p.2)) (Sum.inl k) (Sum.inl j) (.int v)
  rw [pt_putK, lk_valV, lk_valV] at h
  by_cases e : j = k
  · rw [if_pos (by rw [e])] at h
    rw [if_pos e]
    cases q : lk (pt f k v) j with
    | none => rw [q] at h; cases h
    | some u => rw [q] at h; cases h; rfl
  · rw [if_neg (fun z => e (Sum.inl.inj z))] at h
    rw [if_neg e]
    cases q : lk (pt f k v) j with
    | none =>
      rw [q] at h
      cases r : lk f j with
      | none => rfl
      | some u => rw [r] at h; cases h
    | some u =>
      rw [q] at h
      cases r : lk f j with
      | none => rw [r] at h; cases h
      | some u' => rw [r] at h; cases h; rfl
theorem pt_len (f : List (Int × Int)) (k v : Int) : (pt f k v).length ≤ f.length + 1 := by
  unfold pt
  split
  · rw [List.length_map]; omega
  · rw [List.length_append]; exact Nat.le_refl _
section
variable {P : Program} {w : World} {K : PySem.W.Frag} {mg : Str → Option Value} {base : Heap}
def spNames : Sp := fun vs H Q _ => ∃ (a : Addr) (u : Int) (f : List (Int × Int)), vs = [.ref a, .int u] ∧ ScAt H a f ∧ f.length < 64 ∧
  ∀ (p : Addr) (H' : Hp) (ks : List Int), Ext [] H H' → H p = none → H' p = some (.lst (ks.map V.int)) → ks.length < 64 → (∀ k ∈ ks, lk f k = some u) → Q (.ref p) H'
/-- a scope with one name more: a new dict -/
def spBoundG : Sp := fun vs H Q _ => ∃ (a : Addr) (k : Int) (u : V) (kvs : List (Key × V)), vs = [.ref a, .int k, u] ∧ H a = some (.dK kvs) ∧ kvs.length < 1000 ∧
  ∀ (p : Addr) (H' : Hp), Ext [] H H' → H p = none → H' p = some (.dK (putK kvs (Sum.inl k) u)) → Q (.ref p) H'
def spBound : Sp := fun vs H Q _ => ∃ (a : Addr) (k u : Int) (f : List (Int × Int)), vs = [.ref a, .int k, .int u] ∧ ScAt H a f ∧ f.length < 1000 ∧
  ∀ (p : Addr) (H' : Hp), Ext [] H H' → H p = none → ScAt H' p (pt f k u) → Q (.ref p) H'
end
/-! ### of L3 -/
theorem Ext.nw {ms : List Addr} {H H1 : Hp} {p : Addr} {o : HO} (a : Ext ms H H1) (h : H1 p = none) : Ext ms H (upd H1 p o) := a.trans (Ext.new h)
theorem Ext.lst {ms : List Addr} {H H' : Hp} {a : Addr} {xs : List V} (e : Ext ms H H') (n : a ∉ ms) (h : H a = some (.lst xs)) : H' a = some (.lst xs) := e _ _ h (.inl n)
theorem not_in_one {a b : Addr} (h : a ≠ b) : a ∉ [b] := fun z => h (List.mem_singleton.mp z)
theorem dp_ints {K : PySem.W.Frag} {H : Hp} : ∀ ks : List Int, DpAll K H (ks.map V.int) (ks.map PyData.int)
  | [] => .nil
  | k :: r => .cons (.int k) (dp_ints r)
theorem lay_ints : ∀ ks : List Int, PyData.canLayAll0 (ks.map PyData.int) = true ∧ PyData.depthAll (ks.map PyData.int) = 0
  | [] => ⟨rfl, rfl⟩
  | k :: r => by
    obtain ⟨a, b⟩ := lay_ints r
    refine ⟨?_, ?_⟩
    · show (PyData.canLay0 (.int k) && PyData.canLayAll0 (r.map PyData.int)) = true
      rw [a]; rfl
    · show max (PyData.depth (.int k)) (PyData.depthAll (r.map PyData.int)) = 0
      rw [b]; rfl
theorem shaped_ints (ks : List Int) : SeqAt.shaped (.list (ks.map PyData.int)) = true := by
  obtain ⟨a, b⟩ := lay_ints ks
  unfold SeqAt.shaped
  have c : (PyData.list (ks.map PyData.int)).canLay0 = true := a
  have d : (PyData.list (ks.map PyData.int)).depth = 1 := by show PyData.depthAll (ks.map PyData.int) + 1 = 1; rw [b]
  rw [c, d]
  rfl
theorem eqv_nil (ks : List Int) : (!PyData.eqv (.list (ks.map PyData.int)) (.list [])) = decide (ks ≠ []) := by
  cases ks with
  | nil => rfl
  | cons k r => rfl
/-- xs != [] -/
theorem ne_nil {K : PySem.W.Frag} {H : Hp} {a p : Addr} {ks : List Int} {Q : VK} (h : SqL K H a (ks.map V.int)) (hp : H p = some (.lst [])) (k : Q (.bl (decide (ks ≠ []))) H) : rNeD K (.ref a) (.ref p) H Q :=
  ⟨.list (ks.map PyData.int), .list [], .lst h (dp_ints ks), .lst (SqL.of hp) .nil, shaped_ints ks, by decide, by rw [eqv_nil]; exact k⟩
theorem cdec {p : Prop} [Decidable p] (h : decide p = true) : p := of_decide_eq_true h
theorem ndec {p : Prop} [Decidable p] (h : ¬ decide p = true) : ¬ p := fun z => h (decide_eq_true z)
def dom (f : List (Int × Int)) (j : Int) : Prop := ∃ v, lk f j = some v
theorem dom_pt {f : List (Int × Int)} {k u j : Int} (h : dom (pt f k u) j) : j = k ∨ dom f j := by
  obtain ⟨v, h⟩ := h
  rw [lk_pt] at h
  by_cases e : j = k
  · exact .inl e
  · rw [if_neg e] at h; exact .inr ⟨v, h⟩
theorem dom_pt' {f : List (Int × Int)} {k u j : Int} (h : j = k ∨ dom f j) : dom (pt f k u) j := by
  by_cases e : j = k
  · exact ⟨u, by rw [lk_pt, if_pos e]⟩
  · obtain ⟨v, h⟩ := h.resolve_left e
    exact ⟨v, by rw [lk_pt, if_neg e]; exact h⟩
/-- a scope that may be handed on: names from 0 to 9, not too many -/
def Sc (H : Hp) (a : Addr) (f : List (Int × Int)) : Prop := ScAt H a f ∧ f.length < 40 ∧ ∀ j, dom f j → 0 ≤ j ∧ j ≤ 9
theorem at_ints {ks : List Int} {z : Int} (h0 : 0 ≤ z) (h1 : z < (ks.length : Int)) : ∃ k ∈ ks, atI (ks.map V.int) z = some (.int k) := by
  have hk : z.toNat < ks.length := by omega
  refine ⟨ks[z.toNat], List.getElem_mem hk, ?_⟩
  have e : z = ((z.toNat : Nat) : Int) := by omega
  have q : atI (ks.map V.int) ((z.toNat : Nat) : Int) = some (.int ks[z.toNat]) := atI_nat (by rw [List.getElem?_map, List.getElem?_eq_getElem hk]; rfl)
  rw [← e] at q
  exact q
/-- what follows is shown once, for several ways -/
theorem share {T : Hp → Prop} {G : Prop} (W : Hp → Prop) (h : (∀ H2, W H2 → T H2) → G) (r : ∀ H2, W H2 → T H2) : G := h r
theorem share2 {T : V → Hp → Prop} {G : Prop} (W : V → Hp → Prop) (h : (∀ v H2, W v H2 → T v H2) → G) (r : ∀ v H2, W v H2 → T v H2) : G := h r
theorem lst_row_ne {K : PySem.W.Frag} {r p : Addr} {s : Scr} {H : Hp} {ks : List Int} (R : RowAt K r s H) (h : H p = some (.lst (ks.map V.int))) : p ≠ r := fun z => by
  obtain ⟨k, m, t, h1, _⟩ := R
  rw [z, h1] at h
  exact ints_not_refs (HO.lst.inj (Option.some.inj h)).symm
section
variable {P : Program} {w : World} {K : PySem.W.Frag} {mg : Str → Option Value} {base : Heap}
/-- what a maker of expressions tells: one that stands there, of some height, bound by S -/
def Tells (K : PySem.W.Frag) (ms : List Addr) (r : Addr) (s : Scr) (H : Hp) (n : Nat) (S : Int → Prop) (Q : VK) : Prop :=
  ∀ (v : V) (H' : Hp) (e : E), RowAt K r s H' → Ext ms H H' → TE K H' v e → e.hgt ≤ n → e.ok S → Q v H'
def spLeaf (K : PySem.W.Frag) : Sp := fun vs H Q _ => ∃ (r : Addr) (s : Scr) (a : Addr) (u : Int) (f : List (Int × Int)), vs = [.ref r, .ref a, .int u] ∧ RowAt K r s H ∧ Sc H a f ∧ Tells K [r] r s H 3 (dom f) Q
end
/-! ### of L4 -/
def BoxAt (K : PySem.W.Frag) (r : Addr) (s : Scr) (b : Addr) (H : Hp) : Prop := b ≠ r ∧ Off K s b ∧ ∃ m : Int, H b = some (.lst [.int m])
theorem BoxAt.ext {K : PySem.W.Frag} {r b : Addr} {s : Scr} {H H' : Hp} {ms : List Addr} (h : BoxAt K r s b H) (e : Ext ms H H') (n : b ∉ ms) : BoxAt K r s b H' := by
  obtain ⟨a, c, m, q⟩ := h
  exact ⟨a, c, m, e.lst n q⟩
theorem BoxAt.row {K : PySem.W.Frag} {r b : Addr} {s : Scr} {H H' : Hp} (h : BoxAt K r s b H) (e : Ext [r] H H') : BoxAt K r s b H' := h.ext e (not_in_one h.1)
theorem BoxAt.ext0 {K : PySem.W.Frag} {r b : Addr} {s : Scr} {H H' : Hp} (h : BoxAt K r s b H) (e : Ext [] H H') : BoxAt K r s b H' := h.ext e fun z => nomatch z
theorem Ext.one {r b : Addr} {H H' : Hp} (e : Ext [r] H H') : Ext [r, b] H H' := e.mono fun _ z => List.mem_cons.mpr (.inl (List.mem_singleton.mp z))
theorem mem2 {r b : Addr} : b ∈ [r, b] := List.mem_cons.mpr (.inr (List.mem_singleton.mpr rfl))
theorem cond01 (b : Bool) : (if b = true then (1 : Int) else 0) = 0 ∨ (if b = true then (1 : Int) else 0) = 1 := by cases b <;> simp
theorem Sc.bound {H H' : Hp} {a p : Addr} {f : List (Int × Int)} {k u : Int} (h : Sc H a f) (hl : f.length < 39) (hp : ScAt H' p (pt f k u)) (k0 : 0 ≤ k) (k1 : k < 10) : Sc H' p (pt f k u) :=
  ⟨hp, by have := pt_len f k u; omega, fun j hj => (dom_pt hj).elim (fun z => by omega) (h.2.2 j)⟩
theorem Sc.ext {H H' : Hp} {a : Addr} {f : List (Int × Int)} {ms : List Addr} (h : Sc H a f) (e : Ext ms H H') : Sc H' a f := ⟨h.1.ext e, h.2⟩
section
variable {P : Program} {w : World} {K : PySem.W.Frag} {mg : Str → Option Value} {base : Heap}
/-- one of a written list, drawn -/
theorem pick {r l : Addr} {s : Scr} {H : Hp} {zs : List Int} {n : Int} {Q' : VK} {E : XK} (R : RowAt K r s H) (nl : H l = none) (hn : (zs.length : Int) = n) (h0 : 0 < n) (h1 : n < 1073741824)
    (k : ∀ (z : Int) (H3 : Hp), z ∈ zs → RowAt K r s H3 → Ext [r] H H3 → Q' (.int z) H3) : spTaken K [.ref r, .int n] (upd H l (.lst (zs.map V.int))) (fun y H => rIxL K (.ref l) y H Q') E := by
  have x : Ext [] H (upd H l (.lst (zs.map V.int))) := Ext.new nl
  have hl : upd H l (.lst (zs.map V.int)) l = some (.lst (zs.map V.int)) := upd_same
  have R1 := R.ext0 x
  refine ⟨r, s, n, rfl, R1, h0, h1, fun z H3 z0 z1 R3 x3 => ?_⟩
  obtain ⟨y, my, hat⟩ := at_ints (ks := zs) z0 (by omega)
  exact ⟨_, _, _, _, rfl, rfl, SqL.of (x3.lst (not_in_one (lst_row_ne R1 hl)) hl), hat, k y H3 my R3 (x.to.trans x3)⟩
def spE (K : PySem.W.Frag) (n : Nat) : Sp := fun vs H Q _ => ∃ (r : Addr) (s : Scr) (a b : Addr) (u d : Int) (f : List (Int × Int)), vs = [.ref r, .ref a, .int u, .int d, .ref b] ∧ RowAt K r s H ∧ Sc H a f ∧ f.length + n ≤ 30 ∧ 0 ≤ u ∧ u ≤ 3 ∧ d ≤ (n : Int) + 2 ∧ BoxAt K r s b H ∧
  ∀ (v : V) (H' : Hp) (e : E), RowAt K r s H' → Ext [r, b] H H' → BoxAt K r s b H' → TE K H' v e → e.hgt ≤ n + 3 → e.ok (dom f) → Q v H'
end
/-! ### of L5 -/
/-! ### an expression by its word and what stands behind it -/
def E.word : E → Str
  | .num _ => "num" | .nam _ => "name" | .plus _ _ => "plus" | .elet _ _ _ => "let" | .efun _ _ => "fun" | .call _ _ => "call" | .eif _ _ _ => "if"
def E.its : E → List (Int ⊕ E)
  | .num n => [.inl n] | .nam k => [.inl k] | .plus a b => [.inr a, .inr b] | .elet k a b => [.inl k, .inr a, .inr b] | .efun k a => [.inl k, .inr a] | .call a b => [.inr a, .inr b] | .eif a b c => [.inr a, .inr b, .inr c]
def Its (K : PySem.W.Frag) (H : Hp) : List V → List (Int ⊕ E) → Prop
  | [], [] => True
  | v :: vs, .inl i :: r => v = .int i ∧ Its K H vs r
  | v :: vs, .inr e :: r => TE K H v e ∧ Its K H vs r
  | _, _ => False
theorem TE.node {K : PySem.W.Frag} {H : Hp} : ∀ {e : E} {v : V}, TE K H v e → ∃ p vs, v = .ref p ∧ SqT K H p (.str e.word :: vs) ∧ Its K H vs e.its
  | .num n, _, ⟨p, h, q⟩ => ⟨p, _, h, q, rfl, trivial⟩
  | .nam k, _, ⟨p, h, q⟩ => ⟨p, _, h, q, rfl, trivial⟩
  | .plus _ _, _, ⟨p, x, y, h, q, a, b⟩ => ⟨p, _, h, q, a, b, trivial⟩
  | .elet _ _ _, _, ⟨p, x, y, h, q, a, b⟩ => ⟨p, _, h, q, rfl, a, b, trivial⟩
  | .efun _ _, _, ⟨p, x, h, q, a⟩ => ⟨p, _, h, q, rfl, a, trivial⟩
  | .call _ _, _, ⟨p, x, y, h, q, a, b⟩ => ⟨p, _, h, q, a, b, trivial⟩
  | .eif _ _ _, _, ⟨p, x, y, z, h, q, a, b, c⟩ => ⟨p, _, h, q, a, b, c, trivial⟩
theorem TE.ref {K : PySem.W.Frag} {H : Hp} {e : E} {v : V} (h : TE K H v e) : ∃ p xs, v = .ref p ∧ SqT K H p xs := let ⟨p, _, a, b, _⟩ := h.node; ⟨p, _, a, b⟩
theorem Its.ext {K : PySem.W.Frag} {ms : List Addr} {H H' : Hp} (x : Ext ms H H') : ∀ {vs : List V} {l : List (Int ⊕ E)}, Its K H vs l → Its K H' vs l
  | [], [], _ => trivial
  | _ :: _, .inl _ :: _, ⟨a, b⟩ => ⟨a, b.ext x⟩
  | _ :: _, .inr _ :: _, ⟨a, b⟩ => ⟨TE.ext x a, b.ext x⟩
  | [], _ :: _, h => h.elim
  | _ :: _, [], h => h.elim
theorem Its.len {K : PySem.W.Frag} {H : Hp} : ∀ {vs : List V} {l : List (Int ⊕ E)}, Its K H vs l → vs.length = l.length
  | [], [], _ => rfl
  | _ :: _, .inl _ :: _, ⟨_, b⟩ => congrArg (· + 1) b.len
  | _ :: _, .inr _ :: _, ⟨_, b⟩ => congrArg (· + 1) b.len
  | [], _ :: _, h => h.elim
  | _ :: _, [], h => h.elim
theorem Its.at {K : PySem.W.Frag} {H : Hp} : ∀ {vs : List V} {l : List (Int ⊕ E)} {i : Nat} {v : V}, Its K H vs l → vs[i]? = some v → (∃ n, l[i]? = some (.inl n) ∧ v = .int n) ∨ ∃ e, l[i]? = some (.inr e) ∧ TE K H v e
  | [], _, _, _, _, z => by simp at z
  | _ :: _, .inl n :: _, 0, _, ⟨a, _⟩, z => .inl ⟨n, rfl, by cases z; exact a⟩
  | _ :: _, .inr e :: _, 0, _, ⟨a, _⟩, z => .inr ⟨e, rfl, by cases z; exact a⟩
  | _ :: _, .inl _ :: _, i + 1, _, ⟨_, b⟩, z => b.at (i := i) z
  | _ :: _, .inr _ :: _, i + 1, _, ⟨_, b⟩, z => b.at (i := i) z
  | _ :: _, [], _, _, h, _ => h.elim
def isz : Int ⊕ E → Int
  | .inl _ => 0
  | .inr e => e.size
theorem E.size_its (e : E) : (e.size : Int) = 1 + (e.its.map isz).sum := by
  cases e <;> simp [E.size, E.its, isz, List.sum_cons] <;> omega
theorem E.its_len (e : E) : e.its.length ≤ 3 := by cases e <;> simp [E.its]
theorem E.its_hgt {e c : E} {n : Nat} (h : e.hgt ≤ n + 1) (m : Sum.inr c ∈ e.its) : c.hgt ≤ n := by
  cases e <;> simp [E.its] at m <;> simp only [E.hgt] at h
  · rcases m with rfl | rfl <;> omega
  · rcases m with rfl | rfl <;> omega
  · subst m; omega
  · rcases m with rfl | rfl <;> omega
  · rcases m with rfl | rfl | rfl <;> omega
/-! ### isinstance(x, tuple) -/
theorem tyx_tup {K : PySem.W.Frag} {H : Hp} {a : Addr} {xs : List V} (h : SqT K H a xs) : TyX K H (.ref a) (.type "tuple") := by
  rcases h with (h | ⟨o, h⟩) | ⟨o, its, n, h1, h2, _⟩
  · exact .base (.tup h)
  · exact .fTuple h
  · exact .kTuple h1 h2
theorem isi_int {K : PySem.W.Frag} {H : Hp} {i : Int} {Q : VK} (k : Q (.bl false) H) : rIsi K [.int i, .ty "tuple"] H Q :=
  ⟨_, _, _, _, false, rfl, .ty _, .base (.int i), kit_ty (by decide +kernel), k⟩
theorem isi_str {K : PySem.W.Frag} {H : Hp} {i : Str} {Q : VK} (k : Q (.bl false) H) : rIsi K [.str i, .ty "tuple"] H Q :=
  ⟨_, _, _, _, false, rfl, .ty _, .base (.str i), kit_ty (by decide +kernel), k⟩
theorem isi_tup {K : PySem.W.Frag} {H : Hp} {a : Addr} {xs : List V} {Q : VK} (h : SqT K H a xs) (k : Q (.bl true) H) : rIsi K [.ref a, .ty "tuple"] H Q :=
  ⟨_, _, _, _, true, rfl, .ty _, tyx_tup h, kit_ty (by decide +kernel), k⟩
/-- t[1:] -/
theorem cut1 (x : V) (xs : List V) : cutV (x :: xs) (some 1) none = xs := by
  unfold cutV
  rw [show HT.sIx (x :: xs).length 0 (some 1) = min 1 (x :: xs).length from HT.sIx_nat _ 0 1, HT.sIx_none]
  have : min 1 (x :: xs).length = 1 := by rw [List.length_cons]; omega
  rw [this]
  show (List.take ((x :: xs).length - 1) xs) = xs
  rw [List.length_cons, Nat.add_sub_cancel]
  exact List.take_length
theorem cut1_not (x : V) (xs : List V) : ¬ (HT.sIx (x :: xs).length 0 (some 1) = 0 ∧ HT.sIx (x :: xs).length (x :: xs).length none = (x :: xs).length) := fun ⟨h, _⟩ => by
  rw [show HT.sIx (x :: xs).length 0 (some 1) = min 1 (x :: xs).length from HT.sIx_nat _ 0 1, List.length_cons] at h
  omega
theorem sl1 {K : PySem.W.Frag} {H : Hp} {a : Addr} {x : V} {xs : List V} {Q : VK} (h : SqT K H a (x :: xs)) (k : ∀ p, H p = none → Q (.ref p) (upd H p (.tup xs))) : rSlT K (.ref a) (some 1) none H Q :=
  ⟨a, _, rfl, h, cut1_not x xs, fun p np => by rw [cut1]; exact k p np⟩
theorem new_ne {H : Hp} {p q : Addr} {o : HO} (h : upd H p o q = none) : q ≠ p := fun z => by rw [z, upd_same] at h; cases h
theorem new_old {H : Hp} {p q : Addr} {o : HO} (h : upd H p o q = none) : H q = none := by rw [upd_ne (new_ne h)] at h; exact h
section
variable {P : Program} {w : World} {K : PySem.W.Frag} {mg : Str → Option Value} {base : Heap}
/-- the size of an expression that stands at v -/
def spSize (K : PySem.W.Frag) (n : Nat) : Sp := fun vs H Q _ => ∃ (v : V) (e : E), vs = [v] ∧ TE K H v e ∧ e.hgt ≤ n ∧ ∀ H', Ext [] H H' → Q (.int (e.size : Int)) H'
end
/-! ### of L6 -/
theorem at_any {xs : List V} {z : Int} (h0 : 0 ≤ z) (h1 : z < (xs.length : Int)) : ∃ v ∈ xs, atI xs z = some v := by
  have hk : z.toNat < xs.length := by omega
  refine ⟨xs[z.toNat], List.getElem_mem hk, ?_⟩
  have e : z = ((z.toNat : Nat) : Int) := by omega
  have q : atI xs ((z.toNat : Nat) : Int) = some xs[z.toNat] := atI_nat (by rw [List.getElem?_eq_getElem hk])
  rw [← e] at q
  exact q
section
variable {P : Program} {w : World} {K : PySem.W.Frag} {mg : Str → Option Value} {base : Heap}
/-- .. of some height and size, bound by S -/
def Gives (K : PySem.W.Frag) (H : Hp) (n m : Nat) (S : Int → Prop) (v : V) : Prop := ∃ e : E, TE K H v e ∧ e.hgt ≤ n ∧ e.size ≤ m ∧ e.ok S
theorem Gives.ext {ms : List Addr} {H H' : Hp} {n m : Nat} {S : Int → Prop} {v : V} (h : Gives K H n m S v) (x : Ext ms H H') : Gives K H' n m S v := let ⟨e, a, b⟩ := h; ⟨e, TE.ext x a, b⟩
theorem Gives.mono {H : Hp} {n m n' m' : Nat} {S S' : Int → Prop} {v : V} (h : Gives K H n m S v) (hn : n ≤ n') (hm : m ≤ m') (hs : ∀ j, S j → S' j) : Gives K H n' m' S' v :=
  let ⟨e, a, b, c, d⟩ := h; ⟨e, a, Nat.le_trans b hn, Nat.le_trans c hm, d.mono hs⟩
theorem gives_num {H : Hp} {t : Addr} {k : Int} {S : Int → Prop} (h : SqT K H t [.str "num", .int k]) (k0 : 0 ≤ k) (k1 : k ≤ 999) : Gives K H 1 1 S (.ref t) := ⟨.num k, ⟨t, rfl, h⟩, Nat.le_refl _, Nat.le_refl _, k0, k1⟩
theorem gives_nam {H : Hp} {t : Addr} {k : Int} {S : Int → Prop} (h : SqT K H t [.str "name", .int k]) (k0 : 0 ≤ k) (k1 : k ≤ 9) (s : S k) : Gives K H 1 1 S (.ref t) := ⟨.nam k, ⟨t, rfl, h⟩, Nat.le_refl _, Nat.le_refl _, k0, k1, s⟩
theorem gives_plus {H : Hp} {t : Addr} {x y : V} {n m n' m' : Nat} {S : Int → Prop} (h : SqT K H t [.str "plus", x, y]) (a : Gives K H n m S x) (b : Gives K H n' m' S y) : Gives K H (1 + max n n') (1 + m + m') S (.ref t) := by
  obtain ⟨ea, ta, ha, sa, oa⟩ := a
  obtain ⟨eb, tb, hb, sb, ob⟩ := b
  exact ⟨.plus ea eb, ⟨t, _, _, rfl, h, ta, tb⟩, by simp only [Env.E.hgt]; omega, by simp only [Env.E.size]; omega, oa, ob⟩
theorem gives_call {H : Hp} {t : Addr} {x y : V} {n m n' m' : Nat} {S : Int → Prop} (h : SqT K H t [.str "call", x, y]) (a : Gives K H n m S x) (b : Gives K H n' m' S y) : Gives K H (1 + max n n') (1 + m + m') S (.ref t) := by
  obtain ⟨ea, ta, ha, sa, oa⟩ := a
  obtain ⟨eb, tb, hb, sb, ob⟩ := b
  exact ⟨.call ea eb, ⟨t, _, _, rfl, h, ta, tb⟩, by simp only [Env.E.hgt]; omega, by simp only [Env.E.size]; omega, oa, ob⟩
theorem gives_let {H : Hp} {t : Addr} {k : Int} {x y : V} {n m n' m' : Nat} {S : Int → Prop} (h : SqT K H t [.str "let", .int k, x, y]) (k0 : 0 ≤ k) (k1 : k ≤ 9) (a : Gives K H n m S x) (b : Gives K H n' m' (fun j => j = k ∨ S j) y) : Gives K H (1 + max n n') (1 + m + m') S (.ref t) := by
  obtain ⟨ea, ta, ha, sa, oa⟩ := a
  obtain ⟨eb, tb, hb, sb, ob⟩ := b
  exact ⟨.elet k ea eb, ⟨t, _, _, rfl, h, ta, tb⟩, by simp only [Env.E.hgt]; omega, by simp only [Env.E.size]; omega, k0, k1, oa, ob⟩
theorem gives_fun {H : Hp} {t : Addr} {k : Int} {x : V} {n m : Nat} {S : Int → Prop} (h : SqT K H t [.str "fun", .int k, x]) (k0 : 0 ≤ k) (k1 : k ≤ 9) (a : Gives K H n m (fun j => j = k ∨ S j) x) : Gives K H (1 + n) (1 + m) S (.ref t) := by
  obtain ⟨ea, ta, ha, sa, oa⟩ := a
  exact ⟨.efun k ea, ⟨t, _, rfl, h, ta⟩, by simp only [Env.E.hgt]; omega, by simp only [Env.E.size]; omega, k0, k1, oa⟩
theorem gives_if {H : Hp} {t : Addr} {x y z : V} {n m n' m' n'' m'' : Nat} {S : Int → Prop} (h : SqT K H t [.str "if", x, y, z]) (a : Gives K H n m S x) (b : Gives K H n' m' S y) (c : Gives K H n'' m'' S z) : Gives K H (1 + max n (max n' n'')) (1 + m + m' + m'') S (.ref t) := by
  obtain ⟨ea, ta, ha, sa, oa⟩ := a
  obtain ⟨eb, tb, hb, sb, ob⟩ := b
  obtain ⟨ec, tc, hc, sc, oc⟩ := c
  exact ⟨.eif ea eb ec, ⟨t, _, _, _, rfl, h, ta, tb, tc⟩, by simp only [Env.E.hgt]; omega, by simp only [Env.E.size]; omega, oa, ob, oc⟩
/-- a draw -/
theorem draw {r : Addr} {s : Scr} {H : Hp} {n : Int} {Q : VK} {E : XK} (R : RowAt K r s H) (h0 : 0 < n) (h1 : n < 1073741824) (k : ∀ (z : Int) (H' : Hp), 0 ≤ z → z < n → RowAt K r s H' → Ext [r] H H' → Q (.int z) H') : spTaken K [.ref r, .int n] H Q E := ⟨r, s, n, rfl, R, h0, h1, k⟩
def spSmall (K : PySem.W.Frag) : Sp := fun vs H Q _ => ∃ (r : Addr) (s : Scr) (l : Addr) (ks : List Int), vs = [.ref r, .ref l] ∧ RowAt K r s H ∧ H l = some (.lst (ks.map V.int)) ∧ ks ≠ [] ∧ ks.length < 64 ∧ (∀ k ∈ ks, 0 ≤ k ∧ k ≤ 9) ∧
  ∀ (v : V) (H' : Hp), RowAt K r s H' → Ext [r] H H' → Gives K H' 2 3 (· ∈ ks) v → Q v H'
end
/-! ### of L7 -/
/-- what follows a statement is shown once -/
theorem seq_cut {t u : TS} {D : Ends} {σ : L2.St} {H : Hp} (W : L2.St → Hp → Prop) (h1 : (∀ σ' H', W σ' H' → u D σ' H') → tSeq t u D σ H) (h2 : ∀ σ' H', W σ' H' → u D σ' H') : tSeq t u D σ H := h1 h2
section
variable {P : Program} {w : World} {K : PySem.W.Frag} {mg : Str → Option Value} {base : Heap}
def spMakers (K : PySem.W.Frag) : Sp := fun vs H Q _ => ∃ (r : Addr) (s : Scr), vs = [.ref r] ∧ RowAt K r s H ∧ ∀ (v : V) (H' : Hp), RowAt K r s H' → Ext [r] H H' → Gives K H' 8 57 (fun _ => False) v → Q v H'
end
/-! ### of L8x -/
theorem lc_rangeC {lo c : Int} {n : Nat} {g : TG} {tt : TT} {te : L2.TE} {vs : List Nat} {σ : L2.St} {H1 : Hp} {D : Addr} {Qd : Hp → Prop} (Pv : Nat → Hp → Prop) (h0 : Pv 0 (upd H1 D (.lst [])))
    (hs : ∀ i H, i < n → Pv i H → g (.int (lo + (i : Nat) * c)) (wipe σ vs) H fun σ2 H2 => wipe σ2 vs = wipe σ vs ∧ tt σ2 H2 fun b H3 =>
      if b = true then te σ2 H3 fun y H4 => ∃ acc, H4 D = some (.lst acc) ∧ acc.length < sizeLine ∧ Pv (i + 1) (upd H4 D (.lst (acc ++ [y]))) else Pv (i + 1) H3) (hd : ∀ H, Pv n H → Qd H) :
    ∃ W : Nat → Nat → Hp → Prop, (∃ m, W 0 m (upd H1 D (.lst []))) ∧ ∀ i m H, W i m H →
      ((Itc lo c n).stop i H ∧ Qd H) ∨ ((Itc lo c n).go i H ∧ ∃ Nx : Hp → Prop, (∀ H', Nx H' → ∃ m', m' < m ∧ W (i + 1) m' H') ∧ ∀ x H', (Itc lo c n).yld i H x H' → g x (wipe σ vs) H' fun σ2 H2 => wipe σ2 vs = wipe σ vs ∧ tt σ2 H2 fun b H3 =>
        if b = true then te σ2 H3 fun y H4 => ∃ acc, H4 D = some (.lst acc) ∧ acc.length < sizeLine ∧ Nx (upd H4 D (.lst (acc ++ [y]))) else Nx H3) := by
  refine ⟨fun i m H => m = n - i ∧ i ≤ n ∧ Pv i H, ⟨n, by simp, Nat.zero_le _, h0⟩, ?_⟩
  rintro i m H ⟨rfl, hi, p⟩
  by_cases hlt : i < n
  · refine .inr ⟨hlt, Pv (i + 1), fun H' p' => ⟨n - (i + 1), by omega, rfl, hlt, p'⟩, fun x H' y => ?_⟩
    obtain ⟨e, y⟩ := y
    subst e y
    exact hs i _ hlt p
  · have e : i = n := by omega
    subst e
    exact .inl ⟨Nat.le_refl _, hd _ p⟩
theorem rg2 : ∀ m : Nat, 2 ≤ m → m ≤ 8 → RgC 0 ((m : Int) - 1) 2 (m / 2)
  | 0, h, _ => by omega
  | 1, h, _ => by omega
  | 2, _, _ => ⟨by decide, by decide, by decide, by decide⟩
  | 3, _, _ => ⟨by decide, by decide, by decide, by decide⟩
  | 4, _, _ => ⟨by decide, by decide, by decide, by decide⟩
  | 5, _, _ => ⟨by decide, by decide, by decide, by decide⟩
  | 6, _, _ => ⟨by decide, by decide, by decide, by decide⟩
  | 7, _, _ => ⟨by decide, by decide, by decide, by decide⟩
  | 8, _, _ => ⟨by decide, by decide, by decide, by decide⟩
  | n + 9, _, h => by omega
theorem at_head {v : V} {vs : List V} : atI (v :: vs) 0 = some v := atI_nat (j := 0) rfl
theorem cut_from {xs : List V} {k : Nat} (h : k ≤ xs.length) : cutV xs (some (k : Int)) none = xs.drop k := by
  unfold cutV
  rw [HT.sIx_nat, HT.sIx_none, Nat.min_eq_left h]
  exact List.take_of_length_le (by rw [List.length_drop]; exact Nat.le_refl _)
section
variable {P : Program} {w : World} {K : PySem.W.Frag} {mg : Str → Option Value} {base : Heap}
def spSide (K : PySem.W.Frag) : Sp := fun vs H Q _ => ∃ (r : Addr) (s : Scr) (n : Int), vs = [.ref r, .int n] ∧ RowAt K r s H ∧ 1 ≤ n ∧ n ≤ 8 ∧ ∀ (v : V) (H' : Hp), RowAt K r s H' → Ext [r] H H' → Gives K H' 5 31 (fun _ => False) v → Q v H'
end
/-! ### of L9 -/
/-! ### of L10 -/
theorem Ext.of_box {r b : Addr} {H H1 H2 : Hp} (x : Ext [r, b] H1 H2) (y : Ext [r] H H1) (n : H b = none) : Ext [r] H H2 := fun c o h nn => by
  have nb : c ≠ b := fun z => by rw [z, n] at h; cases h
  refine x c o (y c o h nn) (nn.imp (fun z q => ?_) id)
  rcases List.mem_cons.mp q with q | q
  · exact z (by rw [q]; exact List.mem_singleton.mpr rfl)
  · exact nb (List.mem_singleton.mp q)
theorem dom_nil {j : Int} (h : dom [] j) : False := let ⟨u, hu⟩ := h; nomatch (show (none : Option Int) = some u from hu)
section
variable {P : Program} {w : World} {K : PySem.W.Frag} {mg : Str → Option Value} {base : Heap}
def spProgram (K : PySem.W.Frag) : Sp := fun vs H Q _ => ∃ (r : Addr) (s : Scr) (m : Int), vs = [.ref r, .int m] ∧ RowAt K r s H ∧ ∀ (v : V) (H' : Hp), RowAt K r s H' → Ext [r] H H' → Gives K H' 8 57 (fun _ => False) v → Q v H'
/-- an expression that stands at v, closed; of height 7 where the way is none of those done -/
def Prg (K : PySem.W.Frag) (H : Hp) (way : Int) (done : List Int) (v : V) : Prop := ∃ e : E, TE K H v e ∧ e.ok (fun _ => False) ∧ e.hgt ≤ 8 ∧ (way ∉ done → e.hgt ≤ 7)
theorem Prg.ext {ms : List Addr} {H H' : Hp} {way : Int} {done : List Int} {v : V} (h : Prg K H way done v) (x : Ext ms H H') : Prg K H' way done v := let ⟨e, a, b⟩ := h; ⟨e, TE.ext x a, b⟩
theorem Prg.gives {H : Hp} {way : Int} {done : List Int} {v : V} (h : Prg K H way done v) (n : way ∉ done) : ∃ m, Gives K H 7 m (fun _ => False) v := let ⟨e, a, b, _, d⟩ := h; ⟨e.size, e, a, d n, Nat.le_refl _, b⟩
theorem Prg.of {H : Hp} {n m : Nat} {way : Int} {done : List Int} {v : V} (h : Gives K H n m (fun _ => False) v) (hn : n ≤ 8) (hd : way ∈ done) : Prg K H way done v := let ⟨e, a, b, _, d⟩ := h; ⟨e, a, d, Nat.le_trans b hn, fun z => absurd hd z⟩
theorem Prg.skip {H : Hp} {way : Int} {done done' : List Int} {v : V} (h : Prg K H way done v) (hd : way ∉ done' → way ∉ done) : Prg K H way done' v := let ⟨e, a, b, c, d⟩ := h; ⟨e, a, b, c, fun z => d (hd z)⟩
end
/-! ### of L11 -/
/-! ### the parts of a tuple that are tuples -/
def isR : V → Bool
  | .ref _ => true
  | _ => false
/-- an int, a text, or a tuple -/
def Pl (K : PySem.W.Frag) (H : Hp) (v : V) : Prop := (∃ i, v = .int i) ∨ (∃ z, v = .str z) ∨ ∃ a ys, v = .ref a ∧ SqT K H a ys
theorem Pl.ext {K : PySem.W.Frag} {ms : List Addr} {H H' : Hp} {v : V} (h : Pl K H v) (x : Ext ms H H') : Pl K H' v := by
  rcases h with h | h | ⟨a, ys, e, h⟩
  · exact .inl h
  · exact .inr (.inl h)
  · exact .inr (.inr ⟨a, ys, e, x.seqT h⟩)
section
variable {P : Program} {w : World} {K : PySem.W.Frag} {mg : Str → Option Value} {base : Heap}
def spParts (K : PySem.W.Frag) : Sp := fun vs H Q _ => ∃ (a : Addr) (x : V) (xs : List V), vs = [.ref a] ∧ SqT K H a (x :: xs) ∧ xs.length ≤ 100 ∧ (∀ v ∈ xs, Pl K H v) ∧
  ∀ (p : Addr) (H' : Hp), Ext [] H H' → H p = none → H' p = some (.lst (xs.filter isR)) → Q (.ref p) H'
end
/-! ### the expressions straight within one -/
def kidsOf : List (Int ⊕ E) → List E
  | [] => []
  | .inl _ :: r => kidsOf r
  | .inr e :: r => e :: kidsOf r
def E.kids (e : E) : List E := kidsOf e.its
/-- all stand there -/
def TEs (K : PySem.W.Frag) (H : Hp) : List V → List E → Prop
  | [], [] => True
  | v :: vs, e :: es => TE K H v e ∧ TEs K H vs es
  | _, _ => False
theorem TEs.ext {K : PySem.W.Frag} {ms : List Addr} {H H' : Hp} (x : Ext ms H H') : ∀ {vs : List V} {l : List E}, TEs K H vs l → TEs K H' vs l
  | [], [], _ => trivial
  | _ :: _, _ :: _, ⟨a, b⟩ => ⟨TE.ext x a, b.ext x⟩
  | [], _ :: _, h => h.elim
  | _ :: _, [], h => h.elim
theorem TEs.at {K : PySem.W.Frag} {H : Hp} : ∀ {vs : List V} {l : List E} {i : Nat} {v : V}, TEs K H vs l → vs[i]? = some v → ∃ e, l[i]? = some e ∧ TE K H v e
  | [], _, _, _, _, z => by simp at z
  | _ :: _, e :: _, 0, _, ⟨a, _⟩, z => ⟨e, rfl, by cases z; exact a⟩
  | _ :: _, _ :: _, i + 1, _, ⟨_, b⟩, z => b.at (i := i) z
  | _ :: _, [], _, _, h, _ => h.elim
theorem TEs.len {K : PySem.W.Frag} {H : Hp} : ∀ {vs : List V} {l : List E}, TEs K H vs l → vs.length = l.length
  | [], [], _ => rfl
  | _ :: _, _ :: _, ⟨_, b⟩ => congrArg (· + 1) b.len
  | [], _ :: _, h => h.elim
  | _ :: _, [], h => h.elim
theorem Its.kids {K : PySem.W.Frag} {H : Hp} : ∀ {vs : List V} {l : List (Int ⊕ E)}, Its K H vs l → TEs K H (vs.filter isR) (kidsOf l)
  | [], [], _ => trivial
  | v :: vs, .inl i :: r, ⟨a, b⟩ => by
    subst a
    rw [List.filter_cons]
    exact b.kids
  | v :: vs, .inr e :: r, ⟨a, b⟩ => by
    obtain ⟨p, xs, rfl, _⟩ := a.ref
    rw [List.filter_cons]
    exact ⟨a, b.kids⟩
  | [], _ :: _, h => h.elim
  | _ :: _, [], h => h.elim
theorem Its.pl {K : PySem.W.Frag} {H : Hp} {vs : List V} {l : List (Int ⊕ E)} (h : Its K H vs l) : ∀ v ∈ vs, Pl K H v := fun v hv => by
  obtain ⟨i, hi, e⟩ := List.getElem_of_mem hv
  rcases h.at (i := i) (by rw [List.getElem?_eq_getElem hi, e]) with ⟨n, _, rfl⟩ | ⟨e, _, t⟩
  · exact .inl ⟨n, rfl⟩
  · obtain ⟨p, xs, rfl, hp⟩ := t.ref
    exact .inr (.inr ⟨p, xs, rfl, hp⟩)
theorem kids_mem {e : E} : ∀ {l : List (Int ⊕ E)}, e ∈ kidsOf l → Sum.inr e ∈ l
  | [], h => nomatch h
  | .inl _ :: r, h => List.mem_cons_of_mem _ (kids_mem (l := r) h)
  | .inr c :: r, h => by
    rcases List.mem_cons.mp h with rfl | h
    · exact List.mem_cons_self
    · exact List.mem_cons_of_mem _ (kids_mem (l := r) h)
theorem kids_len : ∀ l : List (Int ⊕ E), (kidsOf l).length ≤ l.length
  | [] => Nat.le_refl _
  | .inl _ :: r => Nat.le_succ_of_le (kids_len r)
  | .inr _ :: r => Nat.succ_le_succ (kids_len r)
/-! ### sites -/
def E.binds : E → Bool
  | .elet _ _ _ => true
  | .efun _ _ => true
  | _ => false
def E.sites : E → Nat
  | .num _ => 0
  | .nam _ => 0
  | .plus a b => a.sites + b.sites
  | .elet _ a b => 1 + a.sites + b.sites
  | .efun _ a => 1 + a.sites
  | .call a b => a.sites + b.sites
  | .eif a b c => a.sites + b.sites + c.sites
def bI (b : Bool) : Int := if b then 1 else 0
theorem E.sites_kids (e : E) : (e.sites : Int) = bI e.binds + (e.kids.map fun c => (c.sites : Int)).sum := by
  cases e <;> simp [E.sites, E.kids, E.its, kidsOf, E.binds, bI, List.sum_cons] <;> omega
theorem word_in (e : E) : inV (.str e.word) [.str "let", .str "fun"] = e.binds := by
  cases e <;> (simp only [E.word, E.binds]; decide +kernel)
section
variable {P : Program} {w : World} {K : PySem.W.Frag} {mg : Str → Option Value} {base : Heap}
def spCount (K : PySem.W.Frag) (n : Nat) : Sp := fun vs H Q _ => ∃ (v : V) (e : E), vs = [v] ∧ TE K H v e ∧ e.hgt ≤ n ∧ ∀ H', Ext [] H H' → Q (.int (e.sites : Int)) H'
end
/-! ### of L12 -/
/-! ### an expression with the numbers of its sites -/
def E.here (e : E) (n : Int) : Int := if e.binds then n else 0 - 1
def MT (K : PySem.W.Frag) (H : Hp) : V → E → Int → Prop
  | v, .num k, _ => ∃ p, v = .ref p ∧ SqT K H p [.int (0 - 1), .str "num", .int k]
  | v, .nam k, _ => ∃ p, v = .ref p ∧ SqT K H p [.int (0 - 1), .str "name", .int k]
  | v, .plus a b, n => ∃ p x y, v = .ref p ∧ SqT K H p [.int (0 - 1), .str "plus", x, y] ∧ MT K H x a n ∧ MT K H y b (n + a.sites)
  | v, .elet k a b, n => ∃ p x y, v = .ref p ∧ SqT K H p [.int n, .str "let", .int k, x, y] ∧ MT K H x a (n + 1) ∧ MT K H y b (n + 1 + a.sites)
  | v, .efun k a, n => ∃ p x, v = .ref p ∧ SqT K H p [.int n, .str "fun", .int k, x] ∧ MT K H x a (n + 1)
  | v, .call a b, n => ∃ p x y, v = .ref p ∧ SqT K H p [.int (0 - 1), .str "call", x, y] ∧ MT K H x a n ∧ MT K H y b (n + a.sites)
  | v, .eif a b c, n => ∃ p x y z, v = .ref p ∧ SqT K H p [.int (0 - 1), .str "if", x, y, z] ∧ MT K H x a n ∧ MT K H y b (n + a.sites) ∧ MT K H z c (n + a.sites + b.sites)
theorem MT.ext {K : PySem.W.Frag} {ms : List Addr} {H H' : Hp} (e : Ext ms H H') : ∀ {t : E} {v : V} {n : Int}, MT K H v t n → MT K H' v t n
  | .num _, _, _, ⟨p, h, q⟩ => ⟨p, h, e.seqT q⟩
  | .nam _, _, _, ⟨p, h, q⟩ => ⟨p, h, e.seqT q⟩
  | .plus _ _, _, _, ⟨p, x, y, h, q, a, b⟩ => ⟨p, x, y, h, e.seqT q, MT.ext e a, MT.ext e b⟩
  | .elet _ _ _, _, _, ⟨p, x, y, h, q, a, b⟩ => ⟨p, x, y, h, e.seqT q, MT.ext e a, MT.ext e b⟩
  | .efun _ _, _, _, ⟨p, x, h, q, a⟩ => ⟨p, x, h, e.seqT q, MT.ext e a⟩
  | .call _ _, _, _, ⟨p, x, y, h, q, a, b⟩ => ⟨p, x, y, h, e.seqT q, MT.ext e a, MT.ext e b⟩
  | .eif _ _ _, _, _, ⟨p, x, y, z, h, q, a, b, c⟩ => ⟨p, x, y, z, h, e.seqT q, MT.ext e a, MT.ext e b, MT.ext e c⟩
def MIts (K : PySem.W.Frag) (H : Hp) : List V → List (Int ⊕ E) → Int → Prop
  | [], [], _ => True
  | v :: vs, .inl i :: r, n => v = .int i ∧ MIts K H vs r n
  | v :: vs, .inr e :: r, n => MT K H v e n ∧ MIts K H vs r (n + e.sites)
  | _, _, _ => False
def sitesOf : List (Int ⊕ E) → Int
  | [] => 0
  | .inl _ :: r => sitesOf r
  | .inr e :: r => e.sites + sitesOf r
theorem sitesOf_append : ∀ a b : List (Int ⊕ E), sitesOf (a ++ b) = sitesOf a + sitesOf b
  | [], b => by show sitesOf b = 0 + sitesOf b; omega
  | .inl _ :: r, b => sitesOf_append r b
  | .inr e :: r, b => by
    show (e.sites : Int) + sitesOf (r ++ b) = e.sites + sitesOf r + sitesOf b
    rw [sitesOf_append r b]; omega
theorem sitesOf_nonneg : ∀ a : List (Int ⊕ E), 0 ≤ sitesOf a
  | [] => Int.le_refl 0
  | .inl _ :: r => sitesOf_nonneg r
  | .inr e :: r => by
    have := sitesOf_nonneg r
    show 0 ≤ (e.sites : Int) + sitesOf r
    omega
theorem MIts.ext {K : PySem.W.Frag} {ms : List Addr} {H H' : Hp} (x : Ext ms H H') : ∀ {vs : List V} {l : List (Int ⊕ E)} {n : Int}, MIts K H vs l n → MIts K H' vs l n
  | [], [], _, _ => trivial
  | _ :: _, .inl _ :: _, _, ⟨a, b⟩ => ⟨a, b.ext x⟩
  | _ :: _, .inr _ :: _, _, ⟨a, b⟩ => ⟨MT.ext x a, b.ext x⟩
  | [], _ :: _, _, h => h.elim
  | _ :: _, [], _, h => h.elim
theorem MIts.snoc {K : PySem.W.Frag} {H : Hp} : ∀ {vs : List V} {l : List (Int ⊕ E)} {n : Int} {v : V} {x : Int ⊕ E}, MIts K H vs l n → MIts K H [v] [x] (n + sitesOf l) → MIts K H (vs ++ [v]) (l ++ [x]) n
  | [], [], n, v, x, _, h => by
    have e : n + sitesOf [] = n := by show n + 0 = n; omega
    rw [e] at h
    exact h
  | _ :: _, .inl _ :: _, n, v, x, ⟨a, b⟩, h => ⟨a, b.snoc h⟩
  | _ :: _, .inr e :: r, n, v, x, ⟨a, b⟩, h => ⟨a, b.snoc (by
      have e : n + sitesOf (.inr e :: r) = n + e.sites + sitesOf r := by show n + (e.sites + sitesOf r) = _; omega
      rw [e] at h
      exact h)⟩
  | [], _ :: _, _, _, _, h, _ => h.elim
  | _ :: _, [], _, _, _, h, _ => h.elim
theorem MIts.len {K : PySem.W.Frag} {H : Hp} : ∀ {vs : List V} {l : List (Int ⊕ E)} {n : Int}, MIts K H vs l n → vs.length = l.length
  | [], [], _, _ => rfl
  | _ :: _, .inl _ :: _, _, ⟨_, b⟩ => congrArg (· + 1) b.len
  | _ :: _, .inr _ :: _, _, ⟨_, b⟩ => congrArg (· + 1) b.len
  | [], _ :: _, _, h => h.elim
  | _ :: _, [], _, h => h.elim
theorem MT.of {K : PySem.W.Frag} {H : Hp} {p : Addr} : ∀ {e : E} {vs : List V} {n : Int}, SqT K H p (.int (e.here n) :: .str e.word :: vs) → MIts K H vs e.its (n + bI e.binds) → MT K H (.ref p) e n
  | .num k, [v], n, h, m => by
    obtain ⟨rfl, _⟩ := m
    exact ⟨p, rfl, h⟩
  | .nam k, [v], n, h, m => by
    obtain ⟨rfl, _⟩ := m
    exact ⟨p, rfl, h⟩
  | .plus a b, [x, y], n, h, m => by
    have e0 : n + bI (E.plus a b).binds = n := Int.add_zero n
    rw [e0] at m
    exact ⟨p, x, y, rfl, h, m.1, m.2.1⟩
  | .elet k a b, [v, x, y], n, h, m => by
    obtain ⟨rfl, m1, m2, _⟩ := m
    exact ⟨p, x, y, rfl, h, m1, m2⟩
  | .efun k a, [v, x], n, h, m => by
    obtain ⟨rfl, m1, _⟩ := m
    exact ⟨p, x, rfl, h, m1⟩
  | .call a b, [x, y], n, h, m => by
    have e0 : n + bI (E.call a b).binds = n := Int.add_zero n
    rw [e0] at m
    exact ⟨p, x, y, rfl, h, m.1, m.2.1⟩
  | .eif a b c, [x, y, z], n, h, m => by
    have e0 : n + bI (E.eif a b c).binds = n := Int.add_zero n
    rw [e0] at m
    exact ⟨p, x, y, z, rfl, h, m.1, m.2.1, m.2.2.1⟩
  | .num _, [], _, _, m => m.elim
  | .num _, _ :: _ :: _, _, _, m => m.2.elim
  | .nam _, [], _, _, m => m.elim
  | .nam _, _ :: _ :: _, _, _, m => m.2.elim
  | .plus _ _, [], _, _, m => m.elim
  | .plus _ _, [_], _, _, m => m.2.elim
  | .plus _ _, _ :: _ :: _ :: _, _, _, m => m.2.2.elim
  | .elet _ _ _, [], _, _, m => m.elim
  | .elet _ _ _, [_], _, _, m => m.2.elim
  | .elet _ _ _, [_, _], _, _, m => m.2.2.elim
  | .elet _ _ _, _ :: _ :: _ :: _ :: _, _, _, m => m.2.2.2.elim
  | .efun _ _, [], _, _, m => m.elim
  | .efun _ _, [_], _, _, m => m.2.elim
  | .efun _ _, _ :: _ :: _ :: _, _, _, m => m.2.2.elim
  | .call _ _, [], _, _, m => m.elim
  | .call _ _, [_], _, _, m => m.2.elim
  | .call _ _, _ :: _ :: _ :: _, _, _, m => m.2.2.elim
  | .eif _ _ _, [], _, _, m => m.elim
  | .eif _ _ _, [_], _, _, m => m.2.elim
  | .eif _ _ _, [_, _], _, _, m => m.2.2.elim
  | .eif _ _ _, _ :: _ :: _ :: _ :: _, _, _, m => m.2.2.2.elim
section
variable {P : Program} {w : World} {K : PySem.W.Frag} {mg : Str → Option Value} {base : Heap}
def spMarked (K : PySem.W.Frag) (d : Nat) : Sp := fun vs H Q _ => ∃ (v : V) (e : E) (n : Int), vs = [v, .int n] ∧ TE K H v e ∧ e.hgt ≤ d ∧ d ≤ 9 ∧ 0 ≤ n ∧ ∀ (u : V) (H' : Hp), Ext [] H H' → MT K H' u e n → Q u H'
end
/-! ### of L13x -/
/-! ### what is free in an expression: ρ tells the sites of names around, none where they are bound within -/
def st (ρ : Int → Option Int) (k : Int) (u : Option Int) : Int → Option Int := fun j => if j = k then u else ρ j
def E.free : E → (Int → Option Int) → List Int
  | .num _, _ => []
  | .nam k, ρ => match ρ k with
    | some s => [s]
    | none => []
  | .plus a b, ρ => a.free ρ ++ b.free ρ
  | .elet k a b, ρ => a.free ρ ++ b.free (st ρ k none)
  | .efun k a, ρ => a.free (st ρ k none)
  | .call a b, ρ => a.free ρ ++ b.free ρ
  | .eif a b c, ρ => a.free ρ ++ b.free ρ ++ c.free ρ
theorem E.free_len : ∀ (e : E) (ρ : Int → Option Int), (e.free ρ).length ≤ e.size
  | .num _, _ => Nat.zero_le _
  | .nam k, ρ => by unfold Env.E.free; split <;> simp [Env.E.size]
  | .plus a b, ρ => by have := a.free_len ρ; have := b.free_len ρ; simp only [Env.E.free, Env.E.size, List.length_append]; omega
  | .elet k a b, ρ => by have := a.free_len ρ; have := b.free_len (st ρ k none); simp only [Env.E.free, Env.E.size, List.length_append]; omega
  | .efun k a, ρ => by have := a.free_len (st ρ k none); simp only [Env.E.free, Env.E.size]; omega
  | .call a b, ρ => by have := a.free_len ρ; have := b.free_len ρ; simp only [Env.E.free, Env.E.size, List.length_append]; omega
  | .eif a b c, ρ => by have := a.free_len ρ; have := b.free_len ρ; have := c.free_len ρ; simp only [Env.E.free, Env.E.size, List.length_append]; omega
/-- a dict that says ρ: no name, or None, or a site -/
def Says (kvs : List (Key × V)) (ρ : Int → Option Int) : Prop := ∀ k : Int, (valV kvs (Sum.inl k) = none ∧ ρ k = none) ∨ (valV kvs (Sum.inl k) = some .non ∧ ρ k = none) ∨ ∃ s, valV kvs (Sum.inl k) = some (.int s) ∧ ρ k = some s
def oV : Option Int → V
  | none => .non
  | some s => .int s
theorem Says.put {kvs : List (Key × V)} {ρ : Int → Option Int} (h : Says kvs ρ) (k : Int) (u : Option Int) : Says (putK kvs (Sum.inl k) (oV u)) (st ρ k u) := fun j => by
  rw [valV_put]
  unfold st
  by_cases e : j = k
  · rw [if_pos (by rw [e]), if_pos e]
    cases u with
    | none => exact .inr (.inl ⟨rfl, rfl⟩)
    | some s => exact .inr (.inr ⟨s, rfl, rfl⟩)
  · rw [if_neg (fun z => e (Sum.inl.inj z)), if_neg e]
    exact h j
theorem says_nil : Says [] (fun _ => none) := fun _ => .inl ⟨rfl, rfl⟩
/-! ### the node of a numbered expression -/
theorem MT.node {K : PySem.W.Frag} {H : Hp} : ∀ {e : E} {v : V} {n : Int}, MT K H v e n → ∃ p vs, v = .ref p ∧ SqT K H p (.int (e.here n) :: .str e.word :: vs) ∧ MIts K H vs e.its (n + bI e.binds)
  | .num k, _, n, ⟨p, h, q⟩ => ⟨p, _, h, q, rfl, trivial⟩
  | .nam k, _, n, ⟨p, h, q⟩ => ⟨p, _, h, q, rfl, trivial⟩
  | .plus a b, _, n, ⟨p, x, y, h, q, ma, mb⟩ => ⟨p, _, h, q, by rw [show n + bI (E.plus a b).binds = n from Int.add_zero n]; exact ⟨ma, mb, trivial⟩⟩
  | .elet k a b, _, n, ⟨p, x, y, h, q, ma, mb⟩ => ⟨p, _, h, q, rfl, ma, mb, trivial⟩
  | .efun k a, _, n, ⟨p, x, h, q, ma⟩ => ⟨p, _, h, q, rfl, ma, trivial⟩
  | .call a b, _, n, ⟨p, x, y, h, q, ma, mb⟩ => ⟨p, _, h, q, by rw [show n + bI (E.call a b).binds = n from Int.add_zero n]; exact ⟨ma, mb, trivial⟩⟩
  | .eif a b c, _, n, ⟨p, x, y, z, h, q, ma, mb, mc⟩ => ⟨p, _, h, q, by rw [show n + bI (E.eif a b c).binds = n from Int.add_zero n]; exact ⟨ma, mb, mc, trivial⟩⟩
theorem MT.ref {K : PySem.W.Frag} {H : Hp} {e : E} {v : V} {n : Int} (h : MT K H v e n) : ∃ p xs, v = .ref p ∧ SqT K H p xs := let ⟨p, _, a, b, _⟩ := h.node; ⟨p, _, a, b⟩
/-- numbered expressions one behind the other -/
def MTs (K : PySem.W.Frag) (H : Hp) : List V → List E → Int → Prop
  | [], [], _ => True
  | v :: vs, e :: es, n => MT K H v e n ∧ MTs K H vs es (n + e.sites)
  | _, _, _ => False
theorem MTs.ext {K : PySem.W.Frag} {ms : List Addr} {H H' : Hp} (x : Ext ms H H') : ∀ {vs : List V} {l : List E} {n : Int}, MTs K H vs l n → MTs K H' vs l n
  | [], [], _, _ => trivial
  | _ :: _, _ :: _, _, ⟨a, b⟩ => ⟨MT.ext x a, b.ext x⟩
  | [], _ :: _, _, h => h.elim
  | _ :: _, [], _, h => h.elim
theorem MTs.len {K : PySem.W.Frag} {H : Hp} : ∀ {vs : List V} {l : List E} {n : Int}, MTs K H vs l n → vs.length = l.length
  | [], [], _, _ => rfl
  | _ :: _, _ :: _, _, ⟨_, b⟩ => congrArg (· + 1) b.len
  | [], _ :: _, _, h => h.elim
  | _ :: _, [], _, h => h.elim
def sitesE : List E → Int
  | [] => 0
  | e :: r => e.sites + sitesE r
theorem sitesE_nonneg : ∀ a : List E, 0 ≤ sitesE a
  | [] => Int.le_refl 0
  | e :: r => by
    have := sitesE_nonneg r
    show 0 ≤ (e.sites : Int) + sitesE r
    omega
theorem MTs.at {K : PySem.W.Frag} {H : Hp} : ∀ {vs : List V} {l : List E} {n : Int} {i : Nat} {v : V}, MTs K H vs l n → vs[i]? = some v → ∃ e, l[i]? = some e ∧ MT K H v e (n + sitesE (l.take i))
  | [], _, _, _, _, _, z => by simp at z
  | _ :: _, e :: _, n, 0, _, ⟨a, _⟩, z => ⟨e, rfl, by
      cases z
      rw [List.take_zero, show n + sitesE [] = n from Int.add_zero n]
      exact a⟩
  | _ :: _, c :: r, n, i + 1, _, ⟨_, b⟩, z => by
    obtain ⟨e, he, m⟩ := b.at (i := i) z
    refine ⟨e, he, ?_⟩
    rw [List.take_succ_cons, show n + sitesE (c :: r.take i) = n + c.sites + sitesE (r.take i) from (Int.add_assoc _ _ _).symm]
    exact m
  | _ :: _, [], _, _, _, h, _ => h.elim
theorem MIts.kids {K : PySem.W.Frag} {H : Hp} : ∀ {vs : List V} {l : List (Int ⊕ E)} {n : Int}, MIts K H vs l n → MTs K H (vs.filter isR) (kidsOf l) n
  | [], [], _, _ => trivial
  | v :: vs, .inl i :: r, n, ⟨a, b⟩ => by
    subst a
    rw [List.filter_cons]
    exact b.kids
  | v :: vs, .inr e :: r, n, ⟨a, b⟩ => by
    obtain ⟨p, xs, rfl, _⟩ := a.ref
    rw [List.filter_cons]
    exact ⟨a, b.kids⟩
  | [], _ :: _, _, h => h.elim
  | _ :: _, [], _, h => h.elim
theorem MIts.pl {K : PySem.W.Frag} {H : Hp} : ∀ {vs : List V} {l : List (Int ⊕ E)} {n : Int}, MIts K H vs l n → ∀ v ∈ vs, Pl K H v
  | [], _, _, _, _, z => nomatch z
  | v :: vs, .inl i :: r, n, ⟨a, b⟩, u, hu => by
    rcases List.mem_cons.mp hu with rfl | hu
    · exact .inl ⟨i, a⟩
    · exact b.pl u hu
  | v :: vs, .inr e :: r, n, ⟨a, b⟩, u, hu => by
    rcases List.mem_cons.mp hu with rfl | hu
    · obtain ⟨p, xs, e, h⟩ := a.ref
      exact .inr (.inr ⟨p, xs, e, h⟩)
    · exact b.pl u hu
  | _ :: _, [], _, h, _, _ => h.elim
/-! ### what an expression's word is -/
theorem wq_num_name : decide (V.str "num" = V.str "name") = false := by decide +kernel
theorem wq_num_fun : decide (V.str "num" = V.str "fun") = false := by decide +kernel
theorem wq_num_let : decide (V.str "num" = V.str "let") = false := by decide +kernel
theorem wq_name_name : decide (V.str "name" = V.str "name") = true := by decide +kernel
theorem wq_name_fun : decide (V.str "name" = V.str "fun") = false := by decide +kernel
theorem wq_name_let : decide (V.str "name" = V.str "let") = false := by decide +kernel
theorem wq_plus_name : decide (V.str "plus" = V.str "name") = false := by decide +kernel
theorem wq_plus_fun : decide (V.str "plus" = V.str "fun") = false := by decide +kernel
theorem wq_plus_let : decide (V.str "plus" = V.str "let") = false := by decide +kernel
theorem wq_let_name : decide (V.str "let" = V.str "name") = false := by decide +kernel
theorem wq_let_fun : decide (V.str "let" = V.str "fun") = false := by decide +kernel
theorem wq_let_let : decide (V.str "let" = V.str "let") = true := by decide +kernel
theorem wq_fun_name : decide (V.str "fun" = V.str "name") = false := by decide +kernel
theorem wq_fun_fun : decide (V.str "fun" = V.str "fun") = true := by decide +kernel
theorem wq_fun_let : decide (V.str "fun" = V.str "let") = false := by decide +kernel
theorem wq_call_name : decide (V.str "call" = V.str "name") = false := by decide +kernel
theorem wq_call_fun : decide (V.str "call" = V.str "fun") = false := by decide +kernel
theorem wq_call_let : decide (V.str "call" = V.str "let") = false := by decide +kernel
theorem wq_if_name : decide (V.str "if" = V.str "name") = false := by decide +kernel
theorem wq_if_fun : decide (V.str "if" = V.str "fun") = false := by decide +kernel
theorem wq_if_let : decide (V.str "if" = V.str "let") = false := by decide +kernel
theorem word_is (e : E) : (decide (V.str e.word = V.str "name") = true ∧ ∃ k, e = .nam k) ∨ (decide (V.str e.word = V.str "name") = false ∧ ((decide (V.str e.word = V.str "fun") = true ∧ ∃ k a, e = .efun k a) ∨
    (decide (V.str e.word = V.str "fun") = false ∧ ((decide (V.str e.word = V.str "let") = true ∧ ∃ k a b, e = .elet k a b) ∨ (decide (V.str e.word = V.str "let") = false ∧ e.binds = false ∧ ∀ k, e ≠ .nam k))))) := by
  cases e with
  | num n => exact .inr ⟨wq_num_name, .inr ⟨wq_num_fun, .inr ⟨wq_num_let, rfl, fun _ z => nomatch z⟩⟩⟩
  | nam k => exact .inl ⟨wq_name_name, k, rfl⟩
  | plus a b => exact .inr ⟨wq_plus_name, .inr ⟨wq_plus_fun, .inr ⟨wq_plus_let, rfl, fun _ z => nomatch z⟩⟩⟩
  | elet k a b => exact .inr ⟨wq_let_name, .inr ⟨wq_let_fun, .inl ⟨wq_let_let, k, a, b, rfl⟩⟩⟩
  | efun k a => exact .inr ⟨wq_fun_name, .inl ⟨wq_fun_fun, k, a, rfl⟩⟩
  | call a b => exact .inr ⟨wq_call_name, .inr ⟨wq_call_fun, .inr ⟨wq_call_let, rfl, fun _ z => nomatch z⟩⟩⟩
  | eif a b c => exact .inr ⟨wq_if_name, .inr ⟨wq_if_fun, .inr ⟨wq_if_let, rfl, fun _ z => nomatch z⟩⟩⟩
theorem E.free_kids {e : E} (hb : e.binds = false) (hn : ∀ k, e ≠ .nam k) (ρ : Int → Option Int) : e.free ρ = (e.kids.map fun c => c.free ρ).flatten := by
  cases e with
  | nam k => exact absurd rfl (hn k)
  | elet _ _ _ => cases hb
  | efun _ _ => cases hb
  | _ => simp [E.free, E.kids, E.its, kidsOf]
theorem E.kids_size {e c : E} (h : c ∈ e.kids) : c.size ≤ e.size := by
  cases e <;> simp [E.kids, E.its, kidsOf] at h <;> simp only [E.size]
  · rcases h with rfl | rfl <;> omega
  · rcases h with rfl | rfl <;> omega
  · subst h; omega
  · rcases h with rfl | rfl <;> omega
  · rcases h with rfl | rfl | rfl <;> omega
theorem flat_len {α : Type} (f : α → List Int) (g : α → Nat) (h : ∀ x, (f x).length ≤ g x) : ∀ l : List α, ((l.map f).flatten).length ≤ (l.map g).sum
  | [] => Nat.le_refl _
  | x :: r => by
    have := h x
    have := flat_len f g h r
    simp only [List.map_cons, List.flatten_cons, List.length_append, List.sum_cons]
    omega
theorem sum_take_le (g : E → Nat) : ∀ (l : List E) (i : Nat), ((l.take i).map g).sum ≤ (l.map g).sum
  | [], i => by simp
  | x :: r, 0 => by simp
  | x :: r, i + 1 => by
    have := sum_take_le g r i
    simp only [List.take_succ_cons, List.map_cons, List.sum_cons]
    omega
theorem E.size_kids (e : E) : (e.kids.map E.size).sum ≤ e.size := by
  cases e <;> simp [E.size, E.kids, E.its, kidsOf, List.sum_cons] <;> omega
theorem free_take (e : E) (ρ : Int → Option Int) (i : Nat) : (((e.kids.take i).map fun c => c.free ρ).flatten).length ≤ e.size :=
  Nat.le_trans (flat_len _ E.size (fun c => c.free_len ρ) _) (Nat.le_trans (sum_take_le _ _ _) e.size_kids)
section
variable {P : Program} {w : World} {K : PySem.W.Frag} {mg : Str → Option Value} {base : Heap}
def spFree (K : PySem.W.Frag) (d : Nat) : Sp := fun vs H Q _ => ∃ (v : V) (e : E) (n : Int) (a : Addr) (kvs : List (Key × V)) (ρ : Int → Option Int), vs = [v, .ref a] ∧ MT K H v e n ∧ e.hgt ≤ d ∧ e.size ≤ 200 ∧ H a = some (.dK kvs) ∧ kvs.length + d ≤ 100 ∧ Says kvs ρ ∧
  ∀ (p : Addr) (H' : Hp), Ext [] H H' → H p = none → H' p = some (.lst ((e.free ρ).map V.int)) → Q (.ref p) H'
end
/-! ### of L14 -/
/-! ### rising lists without repeats -/
def insU (x : Int) : List Int → List Int
  | [] => [x]
  | y :: r => if x < y then x :: y :: r else if x = y then y :: r else y :: insU x r
def srt : List Int → List Int
  | [] => []
  | x :: r => insU x (srt r)
theorem insU_mem (x z : Int) : ∀ l : List Int, z ∈ insU x l ↔ z = x ∨ z ∈ l
  | [] => by simp [insU]
  | y :: r => by
    have ih := insU_mem x z r
    unfold insU
    split
    · simp
    · split
      · rename_i h; subst h; simp
      · simp only [List.mem_cons, ih]
        constructor
        · rintro (h | h | h) <;> simp [h]
        · rintro (h | h | h) <;> simp [h]
theorem insU_rise (x : Int) : ∀ l : List Int, l.Pairwise (· < ·) → (insU x l).Pairwise (· < ·)
  | [], _ => List.pairwise_singleton _ _
  | y :: r, h => by
    obtain ⟨h1, h2⟩ := List.pairwise_cons.mp h
    unfold insU
    split
    · rename_i hx
      refine List.pairwise_cons.mpr ⟨fun z hz => ?_, h⟩
      rcases List.mem_cons.mp hz with rfl | hz
      · exact hx
      · exact Int.lt_trans hx (h1 z hz)
    · split
      · exact h
      · rename_i n1 n2
        refine List.pairwise_cons.mpr ⟨fun z hz => ?_, insU_rise x r h2⟩
        rcases (insU_mem x z r).mp hz with rfl | hz
        · omega
        · exact h1 z hz
theorem srt_mem (z : Int) : ∀ l : List Int, z ∈ srt l ↔ z ∈ l
  | [] => Iff.rfl
  | x :: r => by
    show z ∈ insU x (srt r) ↔ _
    rw [insU_mem, srt_mem z r, List.mem_cons]
theorem srt_rise : ∀ l : List Int, (srt l).Pairwise (· < ·)
  | [] => List.Pairwise.nil
  | x :: r => insU_rise x _ (srt_rise r)
theorem rise_eq : ∀ {a b : List Int}, a.Pairwise (· < ·) → b.Pairwise (· < ·) → (∀ z, z ∈ a ↔ z ∈ b) → a = b
  | [], [], _, _, _ => rfl
  | [], y :: r, _, _, h => absurd ((h y).mpr List.mem_cons_self) (fun z => nomatch z)
  | y :: r, [], _, _, h => absurd ((h y).mp List.mem_cons_self) (fun z => nomatch z)
  | x :: r, y :: t, ha, hb, h => by
    obtain ⟨a1, a2⟩ := List.pairwise_cons.mp ha
    obtain ⟨b1, b2⟩ := List.pairwise_cons.mp hb
    have e : x = y := by
      rcases List.mem_cons.mp ((h x).mp List.mem_cons_self) with e | hx
      · exact e
      · rcases List.mem_cons.mp ((h y).mpr List.mem_cons_self) with e | hy
        · exact e.symm
        · have := b1 x hx; have := a1 y hy; omega
    subst e
    rw [rise_eq a2 b2 fun z => ?_]
    have hz := h z
    constructor
    · intro m
      rcases List.mem_cons.mp (hz.mp (List.mem_cons_of_mem _ m)) with e | m2
      · have := a1 z m; omega
      · exact m2
    · intro m
      rcases List.mem_cons.mp (hz.mpr (List.mem_cons_of_mem _ m)) with e | m2
      · have := b1 z m; omega
      · exact m2
/-! ### for each fun its site and what is free in it, rising -/
def E.uses : E → Int → (Int → Option Int) → List (Int × List Int)
  | .num _, _, _ => []
  | .nam _, _, _ => []
  | .plus a b, n, ρ => a.uses n ρ ++ b.uses (n + a.sites) ρ
  | .elet k a b, n, ρ => a.uses (n + 1) ρ ++ b.uses (n + 1 + a.sites) (st ρ k (some n))
  | .efun k a, n, ρ => (n, srt (a.free (st ρ k none))) :: a.uses (n + 1) (st ρ k (some n))
  | .call a b, n, ρ => a.uses n ρ ++ b.uses (n + a.sites) ρ
  | .eif a b c, n, ρ => a.uses n ρ ++ b.uses (n + a.sites) ρ ++ c.uses (n + a.sites + b.sites) ρ
def rise (l : List (Int × List Int)) (lo hi : Int) : Prop := (l.map (·.1)).Pairwise (· < ·) ∧ ∀ p ∈ l, lo ≤ p.1 ∧ p.1 < hi
theorem rise_app {a b : List (Int × List Int)} {lo mid hi : Int} (ha : rise a lo mid) (hb : rise b mid hi) (h1 : lo ≤ mid) (h2 : mid ≤ hi) : rise (a ++ b) lo hi := by
  refine ⟨?_, fun p hp => ?_⟩
  · rw [List.map_append]
    refine List.pairwise_append.mpr ⟨ha.1, hb.1, fun x hx y hy => ?_⟩
    obtain ⟨p, hp, rfl⟩ := List.mem_map.mp hx
    obtain ⟨q, hq, rfl⟩ := List.mem_map.mp hy
    have := (ha.2 p hp).2
    have := (hb.2 q hq).1
    omega
  · rcases List.mem_append.mp hp with m | m
    · have := ha.2 p m; omega
    · have := hb.2 p m; omega
theorem E.uses_rise : ∀ (e : E) (n : Int) (ρ : Int → Option Int), rise (e.uses n ρ) n (n + e.sites)
  | .num _, _, _ => ⟨List.Pairwise.nil, fun _ z => nomatch z⟩
  | .nam _, _, _ => ⟨List.Pairwise.nil, fun _ z => nomatch z⟩
  | .plus a b, n, ρ => by
    have h := rise_app (a.uses_rise n ρ) (b.uses_rise (n + a.sites) ρ) (by omega) (by omega)
    simp only [Env.E.uses, Env.E.sites]
    rw [show n + ((a.sites + b.sites : Nat) : Int) = n + a.sites + b.sites by omega]
    exact h
  | .call a b, n, ρ => by
    have h := rise_app (a.uses_rise n ρ) (b.uses_rise (n + a.sites) ρ) (by omega) (by omega)
    simp only [Env.E.uses, Env.E.sites]
    rw [show n + ((a.sites + b.sites : Nat) : Int) = n + a.sites + b.sites by omega]
    exact h
  | .eif a b c, n, ρ => by
    have h := rise_app (rise_app (a.uses_rise n ρ) (b.uses_rise (n + a.sites) ρ) (by omega) (by omega)) (c.uses_rise (n + a.sites + b.sites) ρ) (by omega) (by omega)
    simp only [Env.E.uses, Env.E.sites]
    rw [show n + ((a.sites + b.sites + c.sites : Nat) : Int) = n + a.sites + b.sites + c.sites by omega]
    exact h
  | .elet k a b, n, ρ => by
    have h := rise_app (a.uses_rise (n + 1) ρ) (b.uses_rise (n + 1 + a.sites) (st ρ k (some n))) (by omega) (by omega)
    simp only [Env.E.uses, Env.E.sites]
    rw [show n + ((1 + a.sites + b.sites : Nat) : Int) = n + 1 + a.sites + b.sites by omega]
    exact ⟨h.1, fun p hp => by have := h.2 p hp; omega⟩
  | .efun k a, n, ρ => by
    have h1 : rise [(n, srt (a.free (st ρ k none)))] n (n + 1) := ⟨List.pairwise_singleton _ _, fun p hp => by rw [List.mem_singleton.mp hp]; exact ⟨Int.le_refl n, by show n < n + 1; omega⟩⟩
    have h := rise_app h1 (a.uses_rise (n + 1) (st ρ k (some n))) (by omega) (by omega)
    simp only [Env.E.uses, Env.E.sites]
    rw [show n + ((1 + a.sites : Nat) : Int) = n + 1 + a.sites by omega]
    exact h
theorem E.uses_len : ∀ (e : E) (n : Int) (ρ : Int → Option Int), (e.uses n ρ).length ≤ e.size
  | .num _, _, _ => Nat.zero_le _
  | .nam _, _, _ => Nat.zero_le _
  | .plus a b, n, ρ => by have := a.uses_len n ρ; have := b.uses_len (n + a.sites) ρ; simp only [Env.E.uses, Env.E.size, List.length_append]; omega
  | .call a b, n, ρ => by have := a.uses_len n ρ; have := b.uses_len (n + a.sites) ρ; simp only [Env.E.uses, Env.E.size, List.length_append]; omega
  | .eif a b c, n, ρ => by have := a.uses_len n ρ; have := b.uses_len (n + a.sites) ρ; have := c.uses_len (n + a.sites + b.sites) ρ; simp only [Env.E.uses, Env.E.size, List.length_append]; omega
  | .elet k a b, n, ρ => by have := a.uses_len (n + 1) ρ; have := b.uses_len (n + 1 + a.sites) (st ρ k (some n)); simp only [Env.E.uses, Env.E.size, List.length_append]; omega
  | .efun k a, n, ρ => by have := a.uses_len (n + 1) (st ρ k (some n)); simp only [Env.E.uses, Env.E.size, List.length_cons]; omega
/-! ### as a dict -/
def UA (H : Hp) : List (Key × V) → List (Int × List Int) → Prop
  | [], [] => True
  | kv :: r, p :: u => kv.1 = Sum.inl p.1 ∧ (∃ l, kv.2 = .ref l ∧ H l = some (.lst (p.2.map V.int))) ∧ UA H r u
  | _, _ => False
theorem UA.ext {H H' : Hp} (x : Ext [] H H') : ∀ {k : List (Key × V)} {u : List (Int × List Int)}, UA H k u → UA H' k u
  | [], [], _ => trivial
  | _ :: _, _ :: _, ⟨a, ⟨l, b, c⟩, d⟩ => ⟨a, ⟨l, b, x.lst (fun z => nomatch z) c⟩, d.ext x⟩
  | [], _ :: _, h => h.elim
  | _ :: _, [], h => h.elim
theorem UA.app {H : Hp} : ∀ {k k' : List (Key × V)} {u u' : List (Int × List Int)}, UA H k u → UA H k' u' → UA H (k ++ k') (u ++ u')
  | [], _, [], _, _, h => h
  | _ :: _, _, _ :: _, _, ⟨a, b, d⟩, h => ⟨a, b, d.app h⟩
  | [], _, _ :: _, _, h, _ => h.elim
  | _ :: _, _, [], _, h, _ => h.elim
theorem UA.keys {H : Hp} : ∀ {k : List (Key × V)} {u : List (Int × List Int)}, UA H k u → k.map (·.1) = u.map fun p => (Sum.inl p.1 : Key)
  | [], [], _ => rfl
  | kv :: _, p :: _, ⟨a, _, d⟩ => by rw [List.map_cons, List.map_cons, a, d.keys]
  | [], _ :: _, h => h.elim
  | _ :: _, [], h => h.elim
theorem UA.len {H : Hp} {k : List (Key × V)} {u : List (Int × List Int)} (h : UA H k u) : k.length = u.length := by
  have := congrArg List.length h.keys
  rwa [List.length_map, List.length_map] at this
theorem mergeK_app : ∀ (more kvs : List (Key × V)), ((kvs ++ more).map (·.1)).Nodup → mergeK kvs more = kvs ++ more
  | [], kvs, _ => by rw [List.append_nil]; rfl
  | kv :: r, kvs, h => by
    have hn : valV kvs kv.1 = none := by
      cases q : valV kvs kv.1 with
      | none => rfl
      | some v =>
        have m := valV_in q
        rw [List.map_append] at h
        exact absurd rfl ((List.pairwise_append.mp h).2.2 _ m _ (List.mem_map.mpr ⟨kv, List.mem_cons_self, rfl⟩))
    show mergeK (putK kvs kv.1 kv.2) r = _
    rw [putK_new kv.2 hn, mergeK_app r _ (by rw [List.append_assoc]; exact h), List.append_assoc]
    rfl
theorem keys_nodup {u : List (Int × List Int)} (h : (u.map (·.1)).Pairwise (· < ·)) : (u.map fun p => (Sum.inl p.1 : Key)).Nodup := by
  rw [show (u.map fun p => (Sum.inl p.1 : Key)) = (u.map (·.1)).map Sum.inl by rw [List.map_map]; rfl]
  refine List.pairwise_map.mpr (h.imp fun {x y} hxy z => ?_)
  have := Sum.inl.inj z
  omega
/-! ### of L15 -/
abbrev Job := E × Int × (Int → Option Int)
def Job.out (j : Job) : List (Int × List Int) := j.1.uses j.2.1 j.2.2
/-- a job stands at v: a pair of a numbered expression and a scope -/
def JA (K : PySem.W.Frag) (F : Addr) (H : Hp) (d : Nat) (v : V) (j : Job) : Prop := ∃ (p : Addr) (x : V) (a : Addr) (kvs : List (Key × V)), a ≠ F ∧ v = .ref p ∧ SqT K H p [x, .ref a] ∧ MT K H x j.1 j.2.1 ∧ j.1.hgt ≤ d ∧ j.1.size ≤ 200 ∧ 0 ≤ j.2.1 ∧ H a = some (.dK kvs) ∧ kvs.length + d ≤ 90 ∧ Says kvs j.2.2
theorem JA.ext {K : PySem.W.Frag} {F : Addr} {ms : List Addr} {H H' : Hp} {d : Nat} {v : V} {j : Job} (x : Ext ms H H') : JA K F H d v j → JA K F H' d v j := fun ⟨p, y, a, kvs, h0, h1, h2, h3, h4, h5, h6, h7, h8⟩ => ⟨p, y, a, kvs, h0, h1, x.seqT h2, MT.ext x h3, h4, h5, h6, x.dk h7, h8⟩
def JAs (K : PySem.W.Frag) (F : Addr) (H : Hp) (d : Nat) : List V → List Job → Prop
  | [], [] => True
  | v :: vs, j :: js => JA K F H d v j ∧ JAs K F H d vs js
  | _, _ => False
theorem JAs.ext {K : PySem.W.Frag} {F : Addr} {ms : List Addr} {H H' : Hp} {d : Nat} (x : Ext ms H H') : ∀ {vs : List V} {js : List Job}, JAs K F H d vs js → JAs K F H' d vs js
  | [], [], _ => trivial
  | _ :: _, _ :: _, ⟨a, b⟩ => ⟨a.ext x, b.ext x⟩
  | [], _ :: _, h => h.elim
  | _ :: _, [], h => h.elim
theorem JAs.len {K : PySem.W.Frag} {F : Addr} {H : Hp} {d : Nat} : ∀ {vs : List V} {js : List Job}, JAs K F H d vs js → vs.length = js.length
  | [], [], _ => rfl
  | _ :: _, _ :: _, ⟨_, b⟩ => congrArg (· + 1) b.len
  | [], _ :: _, h => h.elim
  | _ :: _, [], h => h.elim
theorem JAs.at {K : PySem.W.Frag} {F : Addr} {H : Hp} {d : Nat} : ∀ {vs : List V} {js : List Job} {i : Nat} {v : V}, JAs K F H d vs js → vs[i]? = some v → ∃ j, js[i]? = some j ∧ JA K F H d v j
  | [], _, _, _, _, z => by simp at z
  | _ :: _, j :: _, 0, _, ⟨a, _⟩, z => ⟨j, rfl, by cases z; exact a⟩
  | _ :: _, _ :: _, i + 1, _, ⟨_, b⟩, z => b.at (i := i) z
  | _ :: _, [], _, _, h, _ => h.elim
theorem JAs.snoc {K : PySem.W.Frag} {F : Addr} {H : Hp} {d : Nat} : ∀ {vs : List V} {js : List Job} {v : V} {j : Job}, JAs K F H d vs js → JA K F H d v j → JAs K F H d (vs ++ [v]) (js ++ [j])
  | [], [], _, _, _, h => ⟨h, trivial⟩
  | _ :: _, _ :: _, _, _, ⟨a, b⟩, h => ⟨a, b.snoc h⟩
  | [], _ :: _, _, _, h, _ => h.elim
  | _ :: _, [], _, _, h, _ => h.elim
/-- tuples stay -/
def TK (H H' : Hp) : Prop := ∀ b xs, (H b = some (.tup xs) → H' b = some (.tup xs)) ∧ ∀ o, H b = some (.frz o (.tup xs)) → H' b = some (.frz o (.tup xs))
theorem TK.seqT {K : PySem.W.Frag} {H H' : Hp} {a : Addr} {xs : List V} (e : TK H H') (h : SqT K H a xs) : SqT K H' a xs := by
  rcases h with (h | ⟨o, h⟩) | h
  · exact .inl (.inl ((e _ _).1 h))
  · exact .inl (.inr ⟨o, (e _ _).2 _ h⟩)
  · exact .inr h
theorem MT.tk {K : PySem.W.Frag} {H H' : Hp} (e : TK H H') : ∀ {t : E} {v : V} {n : Int}, MT K H v t n → MT K H' v t n
  | .num _, _, _, ⟨p, h, q⟩ => ⟨p, h, e.seqT q⟩
  | .nam _, _, _, ⟨p, h, q⟩ => ⟨p, h, e.seqT q⟩
  | .plus _ _, _, _, ⟨p, x, y, h, q, a, b⟩ => ⟨p, x, y, h, e.seqT q, MT.tk e a, MT.tk e b⟩
  | .elet _ _ _, _, _, ⟨p, x, y, h, q, a, b⟩ => ⟨p, x, y, h, e.seqT q, MT.tk e a, MT.tk e b⟩
  | .efun _ _, _, _, ⟨p, x, h, q, a⟩ => ⟨p, x, h, e.seqT q, MT.tk e a⟩
  | .call _ _, _, _, ⟨p, x, y, h, q, a, b⟩ => ⟨p, x, y, h, e.seqT q, MT.tk e a, MT.tk e b⟩
  | .eif _ _ _, _, _, ⟨p, x, y, z, h, q, a, b, c⟩ => ⟨p, x, y, z, h, e.seqT q, MT.tk e a, MT.tk e b, MT.tk e c⟩
/-- all but what stands at F, a dict -/
def Exf (F : Addr) (H H' : Hp) : Prop := ∀ b o, H b = some o → b ≠ F → H' b = some o
theorem Exf.tk {F : Addr} {H H' : Hp} {fs : List (Key × V)} (x : Exf F H H') (hF : H F = some (.dK fs)) : TK H H' := fun b xs =>
  ⟨fun h => x b _ h (ne_of h hF fun z => nomatch z), fun o h => x b _ h (ne_of h hF fun z => nomatch z)⟩
theorem JAs.exf {K : PySem.W.Frag} {F : Addr} {H H' : Hp} {d : Nat} {fs : List (Key × V)} (x : Exf F H H') (hF : H F = some (.dK fs)) : ∀ {vs : List V} {js : List Job}, JAs K F H d vs js → JAs K F H' d vs js
  | [], [], _ => trivial
  | _ :: _, _ :: _, ⟨⟨p, y, a, kvs, h0, h1, h2, h3, h4, h5, h6, h7, h8⟩, b⟩ => ⟨⟨p, y, a, kvs, h0, h1, (x.tk hF).seqT h2, MT.tk (x.tk hF) h3, h4, h5, h6, x a _ h7 h0, h8⟩, b.exf x hF⟩
  | [], _ :: _, h => h.elim
  | _ :: _, [], h => h.elim
def jobs : List E → Int → (Int → Option Int) → List Job
  | [], _, _ => []
  | e :: r, n, ρ => (e, n, ρ) :: jobs r (n + e.sites) ρ
theorem jobs_len : ∀ (l : List E) (n : Int) (ρ : Int → Option Int), (jobs l n ρ).length = l.length
  | [], _, _ => rfl
  | _ :: r, n, ρ => congrArg (· + 1) (jobs_len r _ ρ)
theorem jobs_at : ∀ (l : List E) (n : Int) (ρ : Int → Option Int) (i : Nat) (e : E), l[i]? = some e → (jobs l n ρ)[i]? = some (e, n + sitesE (l.take i), ρ)
  | [], _, _, _, _, h => by simp at h
  | c :: r, n, ρ, 0, e, h => by
    cases h
    rw [List.take_zero, show n + sitesE [] = n from Int.add_zero n]
    rfl
  | c :: r, n, ρ, i + 1, e, h => by
    have q := jobs_at r (n + c.sites) ρ i e h
    rw [List.take_succ_cons, show n + sitesE (c :: r.take i) = n + c.sites + sitesE (r.take i) from (Int.add_assoc _ _ _).symm]
    exact q
theorem uses_kids {e : E} (hb : e.binds = false) (n : Int) (ρ : Int → Option Int) : ((jobs e.kids (n + bI e.binds) ρ).map Job.out).flatten = e.uses n ρ := by
  rw [hb, show n + bI false = n from Int.add_zero n]
  cases e with
  | elet _ _ _ => cases hb
  | efun _ _ => cases hb
  | _ => simp [E.kids, E.its, kidsOf, jobs, Job.out, E.uses]
theorem UA.exf {H : Hp} {F : Addr} {fs gs : List (Key × V)} (hF : H F = some (.dK fs)) : ∀ {k : List (Key × V)} {u : List (Int × List Int)}, UA H k u → UA (upd H F (.dK gs)) k u
  | [], [], _ => trivial
  | _ :: _, _ :: _, ⟨a, ⟨l, b, c⟩, d⟩ => ⟨a, ⟨l, b, by rw [upd_ne (ne_of c hF fun z => nomatch z)]; exact c⟩, UA.exf hF d⟩
  | [], _ :: _, h => h.elim
  | _ :: _, [], h => h.elim
section
variable {P : Program} {w : World} {K : PySem.W.Frag} {mg : Str → Option Value} {base : Heap}
def spUses (K : PySem.W.Frag) (d : Nat) : Sp := fun vs H Q _ => ∃ (v : V) (e : E) (n : Int) (a : Addr) (kvs : List (Key × V)) (ρ : Int → Option Int), vs = [v, .ref a] ∧ MT K H v e n ∧ e.hgt ≤ d ∧ d ≤ 9 ∧ e.size ≤ 60 ∧ 0 ≤ n ∧ H a = some (.dK kvs) ∧ kvs.length + d ≤ 90 ∧ Says kvs ρ ∧
  ∀ (p : Addr) (H' : Hp) (fs : List (Key × V)), Ext [] H H' → H p = none → H' p = some (.dK fs) → UA H' fs (e.uses n ρ) → Q (.ref p) H'
end
/-! ### of L16 -/
/-! ### what is told and what is due are alike -/
def Sm (K : PySem.W.Frag) (H : Hp) : Nat → V → V → Prop
  | 0, _, _ => False
  | d + 1, v, u => (∃ n : Int, v = .int n ∧ u = .int n) ∨ (∃ p q xs ys, v = .ref p ∧ u = .ref q ∧ ((SqL K H p xs ∧ SqL K H q ys) ∨ (SqT K H p xs ∧ SqT K H q ys)) ∧ xs.length = ys.length ∧ ys.length ≤ 100 ∧ ∀ (i : Nat) (x y : V), xs[i]? = some x → ys[i]? = some y → Sm K H d x y) ∨ (∃ z : Str, v = .str z ∧ u = .str z ∧ SeqAt.shaped (.str z) = true) ∨ (v = .non ∧ u = .non)
theorem Sm.ext {K : PySem.W.Frag} {H H' : Hp} (x : Ext [] H H') : ∀ {d : Nat} {v u : V}, Sm K H d v u → Sm K H' d v u
  | 0, _, _, h => h.elim
  | d + 1, _, _, .inl h => .inl h
  | d + 1, _, _, .inr (.inl ⟨p, q, xs, ys, h1, h2, h3, h4, h5, h6⟩) => .inr (.inl ⟨p, q, xs, ys, h1, h2, h3.imp (fun ⟨a, b⟩ => ⟨x.seqL (fun z => nomatch z) a, x.seqL (fun z => nomatch z) b⟩) (fun ⟨a, b⟩ => ⟨x.seqT a, x.seqT b⟩), h4, h5, fun i a b ha hb => (h6 i a b ha hb).ext x⟩)
  | d + 1, _, _, .inr (.inr h) => .inr (.inr h)
def rIxB (K : PySem.W.Frag) : R2 := fun x y H Q => ∃ (a : Addr) (i : Nat) (xs : List V) (v : V), x = .ref a ∧ y = .int i ∧ (SqL K H a xs ∨ SqT K H a xs) ∧ xs[i]? = some v ∧ Q v H
theorem ixB {X : Cx} {K : PySem.W.Frag} (h : X.K = K) : IxR X (rIxB K) := by
  rintro value slice pins s σ H x y v u Q I rx ry ⟨a, i, xs, z, rfl, rfl, hs, hx, q⟩ e
  rcases hs with hs | hs
  · exact ixL h value slice pins s σ H _ _ v u Q I rx ry ⟨a, xs, _, z, rfl, rfl, hs, atI_nat hx, q⟩ e
  · exact ixT h value slice pins s σ H _ _ v u Q I rx ry ⟨a, xs, _, z, rfl, rfl, hs, atI_nat hx, q⟩ e
theorem tyx_lst {K : PySem.W.Frag} {H : Hp} {a : Addr} {xs : List V} (h : SqL K H a xs) : TyX K H (.ref a) (.type "list") := by
  rcases h with (h | ⟨o, h⟩) | ⟨o, its, n, h1, h2, _⟩
  · exact .base (.lst h)
  · exact .base (.frz h)
  · exact .kList h1 h2
theorem isiG {K : PySem.W.Frag} {H : Hp} {x : V} {t c : String} {b : Bool} {Q : VK} (ty : TyX K H x (.type t)) (h : kitB t c = some b) (k : Q (.bl b) H) : rIsi K [x, .ty c] H Q :=
  ⟨_, _, _, _, b, rfl, .ty _, ty, kit_ty h, k⟩
theorem isiI {K : PySem.W.Frag} {H : Hp} {i : Int} {c : String} {b : Bool} {Q : VK} (h : kitB "int" c = some b) (k : Q (.bl b) H) : rIsi K [.int i, .ty c] H Q := isiG (.base (.int i)) h k
theorem isiTT {K : PySem.W.Frag} {H : Hp} {x : V} {p : Addr} {t : String} {Q : VK} (hp : H p = some (.tup [.ty "tuple", .ty "list"])) (ty : TyX K H x (.type t)) (h : t = "tuple" ∨ t = "list") (k : Q (.bl true) H) : rIsiT K [x, .ref p] H Q := by
  refine ⟨_, _, _, _, [.type "tuple", .type "list"], true, rfl, hp, .cons (.ty _) (.cons (.ty _) .nil), ty, ?_, k⟩
  rcases h with rfl | rfl
  · exact kitAny_cons (b := true) (kit_ty (by decide +kernel)) (fun z => nomatch z) (fun _ => rfl)
  · exact kitAny_cons (b := false) (kit_ty (by decide +kernel)) (fun _ => kitAny_cons (b := true) (kit_ty (by decide +kernel)) (fun z => nomatch z) (fun _ => rfl)) (fun z => nomatch z)
theorem kb_it : kitB "int" "tuple" = some false := by decide +kernel
theorem kb_il : kitB "int" "list" = some false := by decide +kernel
theorem kb_ib : kitB "int" "bool" = some false := by decide +kernel
theorem kb_is : kitB "int" "str" = some false := by decide +kernel
theorem kb_ii : kitB "int" "int" = some true := by decide +kernel
theorem kb_st : kitB "str" "tuple" = some false := by decide +kernel
theorem kb_sl : kitB "str" "list" = some false := by decide +kernel
theorem kb_sb : kitB "str" "bool" = some false := by decide +kernel
theorem kb_nt : kitB "NoneType" "tuple" = some false := by decide +kernel
theorem kb_nl : kitB "NoneType" "list" = some false := by decide +kernel
theorem kb_sss : kitB "str" "str" = some true := by decide +kernel
theorem isiS {K : PySem.W.Frag} {H : Hp} {i : Str} {c : String} {b : Bool} {Q : VK} (h : kitB "str" c = some b) (k : Q (.bl b) H) : rIsi K [.str i, .ty c] H Q := isiG (.base (.str i)) h k
theorem isiN {K : PySem.W.Frag} {H : Hp} {c : String} {b : Bool} {Q : VK} (h : kitB "NoneType" c = some b) (k : Q (.bl b) H) : rIsi K [.non, .ty c] H Q := isiG (.base .non) h k
theorem eqv_ss (m : Str) : PyData.eqv (.str m) (.str m) = true := by
  show (m == m) = true
  simp
theorem kb_tt : kitB "tuple" "tuple" = some true := by decide +kernel
theorem kb_lt : kitB "list" "tuple" = some false := by decide +kernel
theorem kb_ll : kitB "list" "list" = some true := by decide +kernel
theorem eqv_ii (m : Int) : PyData.eqv (.int m) (.int m) = true := by
  show decide _ = true
  simp
section
variable {P : Program} {w : World} {K : PySem.W.Frag} {mg : Str → Option Value} {base : Heap}
def spAlike (K : PySem.W.Frag) (d : Nat) : Sp := fun vs H Q _ => ∃ v u : V, vs = [v, u] ∧ Sm K H d v u ∧ ∀ H', Ext [] H H' → Q (.bl true) H'
end
/-! ### of L17 -/
/-! ### what the program tells: tuples of a site and a list that is its own -/
def UT (H0 H : Hp) : List V → List (Int × List Int) → Prop
  | [], [] => True
  | v :: r, p :: u => (∃ t l, v = .ref t ∧ H t = some (.tup [.int p.1, .ref l]) ∧ H0 l = none ∧ H l = some (.lst (p.2.map V.int))) ∧ UT H0 H r u
  | _, _ => False
theorem insU_len (x : Int) : ∀ l : List Int, (insU x l).length ≤ l.length + 1
  | [] => Nat.le_refl _
  | y :: r => by
    have ih := insU_len x r
    unfold insU
    split
    · simp
    · split
      · simp
      · simp only [List.length_cons]; omega
theorem srt_len : ∀ l : List Int, (srt l).length ≤ l.length
  | [] => Nat.le_refl _
  | x :: r => Nat.le_trans (insU_len x _) (Nat.succ_le_succ (srt_len r))
theorem E.uses_in : ∀ (e : E) (n : Int) (ρ : Int → Option Int), ∀ p ∈ e.uses n ρ, p.2.length ≤ e.size
  | .num _, _, _, _, h => nomatch h
  | .nam _, _, _, _, h => nomatch h
  | .plus a b, n, ρ, p, h => by
    simp only [Env.E.uses, List.mem_append] at h
    simp only [Env.E.size]
    rcases h with h | h
    · have := a.uses_in _ _ p h; omega
    · have := b.uses_in _ _ p h; omega
  | .call a b, n, ρ, p, h => by
    simp only [Env.E.uses, List.mem_append] at h
    simp only [Env.E.size]
    rcases h with h | h
    · have := a.uses_in _ _ p h; omega
    · have := b.uses_in _ _ p h; omega
  | .elet k a b, n, ρ, p, h => by
    simp only [Env.E.uses, List.mem_append] at h
    simp only [Env.E.size]
    rcases h with h | h
    · have := a.uses_in _ _ p h; omega
    · have := b.uses_in _ _ p h; omega
  | .eif a b c, n, ρ, p, h => by
    simp only [Env.E.uses, List.mem_append] at h
    simp only [Env.E.size]
    rcases h with (h | h) | h
    · have := a.uses_in _ _ p h; omega
    · have := b.uses_in _ _ p h; omega
    · have := c.uses_in _ _ p h; omega
  | .efun k a, n, ρ, p, h => by
    simp only [Env.E.uses, List.mem_cons] at h
    simp only [Env.E.size]
    rcases h with rfl | h
    · have := srt_len (a.free (st ρ k none)); have := a.free_len (st ρ k none); show (srt _).length ≤ _; omega
    · have := a.uses_in _ _ p h; omega
theorem UT.len {H0 H : Hp} : ∀ {vs : List V} {u : List (Int × List Int)}, UT H0 H vs u → vs.length = u.length
  | [], [], _ => rfl
  | _ :: _, _ :: _, ⟨_, b⟩ => congrArg (· + 1) b.len
  | [], _ :: _, h => h.elim
  | _ :: _, [], h => h.elim
theorem UT.at {H0 H : Hp} : ∀ {vs : List V} {u : List (Int × List Int)} {i : Nat} {v : V}, UT H0 H vs u → vs[i]? = some v → ∃ p t l, u[i]? = some p ∧ v = .ref t ∧ H t = some (.tup [.int p.1, .ref l]) ∧ H0 l = none ∧ H l = some (.lst (p.2.map V.int))
  | [], _, _, _, _, z => by simp at z
  | _ :: _, p :: _, 0, _, ⟨⟨t, l, a⟩, _⟩, z => ⟨p, t, l, rfl, by cases z; exact a⟩
  | _ :: _, _ :: _, i + 1, _, ⟨_, b⟩, z => b.at (i := i) z
  | _ :: _, [], _, _, h, _ => h.elim
theorem UT.snoc {H0 H : Hp} : ∀ {vs : List V} {u : List (Int × List Int)} {v : V} {p : Int × List Int}, UT H0 H vs u → (∃ t l, v = .ref t ∧ H t = some (.tup [.int p.1, .ref l]) ∧ H0 l = none ∧ H l = some (.lst (p.2.map V.int))) → UT H0 H (vs ++ [v]) (u ++ [p])
  | [], [], _, _, _, h => ⟨h, trivial⟩
  | _ :: _, _ :: _, _, _, ⟨a, b⟩, h => ⟨a, b.snoc h⟩
  | [], _ :: _, _, _, h, _ => h.elim
  | _ :: _, [], _, _, h, _ => h.elim
theorem UT.ext {H0 H H' : Hp} (x : Ext [] H H') : ∀ {vs : List V} {u : List (Int × List Int)}, UT H0 H vs u → UT H0 H' vs u
  | [], [], _ => trivial
  | _ :: _, _ :: _, ⟨⟨t, l, a, b, c, d⟩, e⟩ => ⟨⟨t, l, a, x.tup b, c, x.lst (fun z => nomatch z) d⟩, e.ext x⟩
  | [], _ :: _, h => h.elim
  | _ :: _, [], h => h.elim
theorem UT.anew {H0 H1 H : Hp} (x : ∀ l xs, H l = some (.lst xs) → H0 l = none → H1 l = none) : ∀ {vs : List V} {u : List (Int × List Int)}, UT H0 H vs u → UT H1 H vs u
  | [], [], _ => trivial
  | _ :: _, _ :: _, ⟨⟨t, l, a, b, c, d⟩, e⟩ => ⟨⟨t, l, a, b, x _ _ d c, d⟩, e.anew x⟩
  | [], _ :: _, h => h.elim
  | _ :: _, [], h => h.elim
theorem UT.sm {K : PySem.W.Frag} {H0 H1 H : Hp} {p q : Addr} {vs ws : List V} {u : List (Int × List Int)} (hp : H p = some (.lst vs)) (hq : H q = some (.lst ws)) (a : UT H0 H vs u) (b : UT H1 H ws u) (l1 : u.length ≤ 100) (l2 : ∀ e ∈ u, e.2.length ≤ 100) : Sm K H 4 (.ref p) (.ref q) := by
  refine .inr (.inl ⟨p, q, vs, ws, rfl, rfl, .inl ⟨SqL.of hp, SqL.of hq⟩, by rw [a.len, b.len], by rw [b.len]; exact l1, fun i x y hx hy => ?_⟩)
  obtain ⟨e, t, l, he, rfl, ht, _, hl⟩ := a.at hx
  obtain ⟨e', t', l', he', rfl, ht', _, hl'⟩ := b.at hy
  rw [he] at he'
  cases he'
  refine .inr (.inl ⟨t, t', _, _, rfl, rfl, .inr ⟨SqT.of ht, SqT.of ht'⟩, rfl, Nat.le_of_ble_eq_true rfl, fun j x y hx hy => ?_⟩)
  match j, hx, hy with
  | 0, hx, hy => cases hx; cases hy; exact .inl ⟨_, rfl, rfl⟩
  | 1, hx, hy =>
    cases hx; cases hy
    refine .inr (.inl ⟨l, l', _, _, rfl, rfl, .inl ⟨SqL.of hl, SqL.of hl'⟩, rfl, by rw [List.length_map]; exact l2 _ (List.mem_of_getElem? he), fun j x y hx hy => ?_⟩)
    rw [hx] at hy
    cases hy
    rw [List.getElem?_map] at hx
    cases e9 : e.2[j]? with
    | none => rw [e9] at hx; cases hx
    | some z => rw [e9] at hx; cases hx; exact .inl ⟨z, rfl, rfl⟩
  | j + 2, hx, hy => cases hx
theorem UT.put {H0 H : Hp} {D : Addr} {o : HO} {xs ys : List V} (h0 : H0 D = some o) (hD : H D = some (.lst xs)) : ∀ {vs : List V} {u : List (Int × List Int)}, UT H0 H vs u → UT H0 (upd H D (.lst ys)) vs u
  | [], [], _ => trivial
  | _ :: _, _ :: _, ⟨⟨t, l, a, b, c, d⟩, e⟩ => ⟨⟨t, l, a, by rw [upd_ne (ne_of b hD fun z => nomatch z)]; exact b, c, by rw [upd_ne fun z => by rw [z, h0] at c; cases c]; exact d⟩, e.put h0 hD⟩
  | [], _ :: _, h => h.elim
  | _ :: _, [], h => h.elim
/-- nothing but a list at D -/
def at0 (D : Addr) : Hp := fun b => if b = D then some (.lst []) else none
theorem UA.get {H : Hp} : ∀ {k : List (Key × V)} {u : List (Int × List Int)}, UA H k u → (u.map (·.1)).Pairwise (· < ·) → ∀ p ∈ u, ∃ l, valV k (Sum.inl p.1) = some (.ref l) ∧ H l = some (.lst (p.2.map V.int))
  | [], [], _, _, _, h => nomatch h
  | kv :: r, e :: u, ⟨a, ⟨l, b, c⟩, d⟩, hw, p, hp => by
    obtain ⟨w1, w2⟩ := List.pairwise_cons.mp hw
    rcases List.mem_cons.mp hp with rfl | hp
    · refine ⟨l, ?_, c⟩
      unfold valV
      rw [List.find?_cons, a, decide_eq_true rfl]
      exact congrArg some b
    · obtain ⟨l2, h1, h2⟩ := d.get w2 p hp
      refine ⟨l2, ?_, h2⟩
      have ne : ¬ ((Sum.inl e.1 : Key) = Sum.inl p.1) := fun z => by
        have := Sum.inl.inj z
        have w3 : e.1 < p.1 := w1 p.1 (List.mem_map.mpr ⟨p, hp, rfl⟩)
        omega
      unfold valV at h1 ⊢
      rw [List.find?_cons, a, decide_eq_false ne]
      exact h1
  | [], _ :: _, h, _, _, _ => h.elim
  | _ :: _, [], h, _, _, _ => h.elim
/-- what is told may be changed: each tuple's list, but not the list of them -/
def UL (H0 : Hp) (q : Addr) (n : Nat) (H : Hp) (vs : List V) : Prop := ∀ v ∈ vs, ∃ t c l zs, v = .ref t ∧ H t = some (.tup [c, .ref l]) ∧ H0 l = none ∧ l ≠ q ∧ H l = some (.lst zs) ∧ zs.length ≤ n
theorem UT.ul {H0 H : Hp} {q : Addr} {vs : List V} {u : List (Int × List Int)} (hq : H q = some (.lst vs)) (h : UT H0 H vs u) (l2 : ∀ e ∈ u, e.2.length ≤ 100) : UL H0 q 100 H vs := fun v hv => by
  obtain ⟨i, hi, e⟩ := List.getElem_of_mem hv
  obtain ⟨p, t, l, hp, rfl, ht, hn, hl⟩ := h.at (i := i) (v := v) (by rw [List.getElem?_eq_getElem hi, e])
  refine ⟨t, _, l, _, rfl, ht, hn, fun z => ?_, hl, by rw [List.length_map]; exact l2 _ (List.mem_of_getElem? hp)⟩
  rw [z, hq] at hl
  have e2 := HO.lst.inj (Option.some.inj hl)
  rw [e2] at hv
  obtain ⟨_, _, z⟩ := List.mem_map.mp hv
  cases z
theorem UL.put {H0 H : Hp} {q l : Addr} {n : Nat} {vs zs : List V} (h : UL H0 q n H vs) (hl : H l = some (.lst zs)) (hn : zs.length ≤ n) (y : V) : UL H0 q (n + 1) (upd H l (.lst (zs ++ [y]))) vs := fun v hv => by
  obtain ⟨t, c, m, ys, rfl, ht, h0, hq, hm, hs⟩ := h v hv
  refine ⟨t, c, m, if m = l then zs ++ [y] else ys, rfl, by rw [upd_ne (ne_of ht hl fun z => nomatch z)]; exact ht, h0, hq, ?_, ?_⟩
  · by_cases e : m = l
    · rw [if_pos e, e, upd_same]
    · rw [if_neg e, upd_ne e]; exact hm
  · by_cases e : m = l
    · rw [if_pos e, List.length_append]; exact Nat.succ_le_succ hn
    · rw [if_neg e]; omega
section
variable {P : Program} {w : World} {K : PySem.W.Frag} {mg : Str → Option Value} {base : Heap}
def spPU (K : PySem.W.Frag) : Sp := fun vs H Q _ => ∃ (v : V) (e : E), vs = [v] ∧ TE K H v e ∧ e.hgt ≤ 8 ∧ e.size ≤ 60 ∧ e.ok (fun _ => False) ∧
  ∀ (p : Addr) (H' : Hp) (ws : List V), Ext [] H H' → H p = none → H' p = some (.lst ws) → UT H H' ws (e.uses 0 fun _ => none) → Q (.ref p) H'
def spLaw (K : PySem.W.Frag) : Sp := fun vs H Q _ => ∃ s : Scr, vs = [.ref s.a] ∧ SqL K H s.a (s.ns.map V.int) ∧ s.ns.length ≤ 63 ∧ ∀ H', Q (.bl true) H'
end
/-! ### of L18 -/
/-! ### an expression and all within it -/
def E.pre : E → List E
  | .num n => [.num n]
  | .nam k => [.nam k]
  | .plus a b => .plus a b :: (a.pre ++ b.pre)
  | .elet k a b => .elet k a b :: (a.pre ++ b.pre)
  | .efun k a => .efun k a :: a.pre
  | .call a b => .call a b :: (a.pre ++ b.pre)
  | .eif a b c => .eif a b c :: (a.pre ++ b.pre ++ c.pre)
theorem E.pre_kids (e : E) : e.pre = e :: (e.kids.map E.pre).flatten := by
  cases e <;> simp [E.pre, E.kids, E.its, kidsOf]
theorem E.pre_len : ∀ e : E, e.pre.length = e.size
  | .num _ => rfl
  | .nam _ => rfl
  | .plus a b => by simp only [Env.E.pre, Env.E.size, List.length_cons, List.length_append, a.pre_len, b.pre_len]; omega
  | .elet _ a b => by simp only [Env.E.pre, Env.E.size, List.length_cons, List.length_append, a.pre_len, b.pre_len]; omega
  | .efun _ a => by simp only [Env.E.pre, Env.E.size, List.length_cons, a.pre_len]; omega
  | .call a b => by simp only [Env.E.pre, Env.E.size, List.length_cons, List.length_append, a.pre_len, b.pre_len]; omega
  | .eif a b c => by simp only [Env.E.pre, Env.E.size, List.length_cons, List.length_append, a.pre_len, b.pre_len, c.pre_len]; omega
theorem TEs.app {K : PySem.W.Frag} {H : Hp} : ∀ {vs ws : List V} {l m : List E}, TEs K H vs l → TEs K H ws m → TEs K H (vs ++ ws) (l ++ m)
  | [], _, [], _, _, h => h
  | _ :: _, _, _ :: _, _, ⟨a, b⟩, h => ⟨a, b.app h⟩
  | [], _, _ :: _, _, h, _ => h.elim
  | _ :: _, _, [], _, h, _ => h.elim
theorem kidsOf_app : ∀ (l m : List (Int ⊕ E)), kidsOf (l ++ m) = kidsOf l ++ kidsOf m
  | [], _ => rfl
  | .inl _ :: r, m => kidsOf_app r m
  | .inr e :: r, m => congrArg (e :: ·) (kidsOf_app r m)
/-- what is told of the parts up to the i-th -/
def E.preTo (e : E) (i : Nat) : List E := e :: ((kidsOf (e.its.take i)).map E.pre).flatten
theorem E.preTo_all {e : E} {i : Nat} (h : e.its.length ≤ i) : e.preTo i = e.pre := by
  unfold Env.E.preTo
  rw [List.take_of_length_le h, e.pre_kids]
  rfl
theorem E.preTo_num {e : E} {i : Nat} {k : Int} (h : e.its[i]? = some (.inl k)) : e.preTo (i + 1) = e.preTo i := by
  unfold Env.E.preTo
  rw [List.take_succ, h, kidsOf_app]
  show e :: ((kidsOf _ ++ []).map Env.E.pre).flatten = _
  rw [List.append_nil]
theorem E.preTo_sub {e c : E} {i : Nat} (h : e.its[i]? = some (.inr c)) : e.preTo (i + 1) = e.preTo i ++ c.pre := by
  unfold Env.E.preTo
  rw [List.take_succ, h, kidsOf_app]
  show e :: ((kidsOf _ ++ [c]).map Env.E.pre).flatten = _
  rw [List.map_append, List.flatten_append, List.map_cons, List.map_nil, List.flatten_singleton]
  rfl
theorem E.preTo_len (e : E) (i : Nat) : (e.preTo i).length ≤ e.size := by
  rw [← e.pre_len, e.pre_kids]
  unfold Env.E.preTo
  have : e.kids = kidsOf (e.its.take i) ++ kidsOf (e.its.drop i) := by rw [← kidsOf_app, List.take_append_drop]; rfl
  rw [this, List.map_append, List.flatten_append]
  simp
theorem E.its_size {e c : E} {i : Nat} (h : e.its[i]? = some (.inr c)) : c.size ≤ e.size := by
  have m := List.mem_of_getElem? h
  cases e <;> simp [Env.E.its] at m <;> simp only [Env.E.size]
  · rcases m with rfl | rfl <;> omega
  · rcases m with rfl | rfl <;> omega
  · subst m; omega
  · rcases m with rfl | rfl <;> omega
  · rcases m with rfl | rfl | rfl <;> omega
section
variable {P : Program} {w : World} {K : PySem.W.Frag} {mg : Str → Option Value} {base : Heap}
def spPO (K : PySem.W.Frag) (d : Nat) : Sp := fun vs H Q _ => ∃ (v : V) (e : E), vs = [v] ∧ TE K H v e ∧ e.hgt ≤ d ∧ e.size ≤ 60 ∧
  ∀ (p : Addr) (H' : Hp) (ws : List V), Ext [] H H' → H p = none → H' p = some (.lst ws) → TEs K H' ws e.pre → Q (.ref p) H'
end
/-! ### of L19 -/
theorem si_list {w : World} {K : PySem.W.Frag} {a : Addr} {xs : List V} {g : TG} {tt : TT} {te : L2.TE} {vs : List Nat} {σ : L2.St} {H1 : Hp} {D : Addr} {Qd : Hp → Prop} (Pv : Nat → Hp → Prop) (h0 : Pv 0 (upd H1 D (SO w D [] 0))) (hl : ∀ i H, i ≤ xs.length → Pv i H → SqL K H a xs)
    (hs : ∀ i x H, xs[i]? = some x → Pv i H → g x (wipe σ vs) H fun σ2 H2 => wipe σ2 vs = wipe σ vs ∧ tt σ2 H2 fun b H3 =>
      if b = true then te σ2 H3 fun y H4 => ∃ (k : Int) (ns : List Int) (c : Nat), y = .int k ∧ H4 D = some (SO w D ns c) ∧ c + 1 < scanBound ∧ ∀ c', c' ≤ c + 1 → Pv (i + 1) (upd H4 D (SO w D (ns ++ [k]) c'))
      else Pv (i + 1) H3) (hd : ∀ H, Pv xs.length H → Qd H) :
    ∃ W : Nat → Nat → Hp → Prop, (∃ m, W 0 m (upd H1 D (SO w D [] 0))) ∧
    ∀ i m H, W i m H → ((Itl K a).stop i H ∧ Qd H) ∨ ((Itl K a).go i H ∧ ∃ Nx : Hp → Prop, (∀ H', Nx H' → ∃ m', m' < m ∧ W (i + 1) m' H') ∧
      ∀ x H', (Itl K a).yld i H x H' → g x (wipe σ vs) H' fun σ2 H2 => wipe σ2 vs = wipe σ vs ∧ tt σ2 H2 fun b H3 =>
        if b = true then te σ2 H3 fun y H4 => ∃ (k : Int) (ns : List Int) (c : Nat), y = .int k ∧ H4 D = some (SO w D ns c) ∧ c + 1 < scanBound ∧ ∀ c', c' ≤ c + 1 → Nx (upd H4 D (SO w D (ns ++ [k]) c'))
        else Nx H3) := by
  refine ⟨fun i m H => m = xs.length - i ∧ i ≤ xs.length ∧ Pv i H, ⟨_, rfl, Nat.zero_le _, h0⟩, ?_⟩
  rintro i m H ⟨rfl, hi, p⟩
  have q := hl i H hi p
  rcases Nat.lt_or_ge i xs.length with lt | ge
  · refine .inr ⟨⟨xs, xs[i], q, List.getElem?_eq_getElem lt⟩, Pv (i + 1), fun H' p' => ⟨xs.length - (i + 1), by omega, rfl, lt, p'⟩, ?_⟩
    rintro x H' ⟨rfl, y⟩
    exact hs i x _ (y xs q) p
  · obtain rfl : i = xs.length := Nat.le_antisymm hi ge
    exact .inl ⟨⟨xs, q, Nat.le_refl _⟩, hd H p⟩
section
variable {P : Program} {w : World} {K : PySem.W.Frag} {mg : Str → Option Value} {base : Heap}
/-- the names within, ahead of n -/
def E.low (n : Int) : List E → List Int
  | [] => []
  | .nam k :: r => if k < n then k :: E.low n r else E.low n r
  | _ :: r => E.low n r
theorem E.low_app (n : Int) : ∀ l m : List E, E.low n (l ++ m) = E.low n l ++ E.low n m
  | [], _ => rfl
  | .nam k :: r, m => by
    show (if k < n then k :: E.low n (r ++ m) else E.low n (r ++ m)) = (if k < n then k :: E.low n r else E.low n r) ++ E.low n m
    rw [E.low_app n r m]
    split <;> rfl
  | .num _ :: r, m => E.low_app n r m
  | .plus _ _ :: r, m => E.low_app n r m
  | .elet _ _ _ :: r, m => E.low_app n r m
  | .efun _ _ :: r, m => E.low_app n r m
  | .call _ _ :: r, m => E.low_app n r m
  | .eif _ _ _ :: r, m => E.low_app n r m
def spUO (K : PySem.W.Frag) : Sp := fun vs H Q _ => ∃ (v : V) (n : Int) (b : E), vs = [v] ∧ TE K H v (.efun n b) ∧ (E.efun n b).hgt ≤ 9 ∧ (E.efun n b).size ≤ 60 ∧
  ∀ (p : Addr) (H' : Hp), Ext [] H H' → H p = none → H' p = some (.lst ((srt (E.low n (E.efun n b).pre)).map V.int)) → Q (.ref p) H'
end
/-! ### of L20 -/
/-! ### sites in place of names -/
def put (ρ : Int → Int) (k n : Int) : Int → Int := fun j => if j = k then n else ρ j
def E.mk : E → Int → (Int → Int) → E
  | .num i, _, _ => .num i
  | .nam k, _, ρ => .nam (ρ k)
  | .plus a b, n, ρ => .plus (a.mk n ρ) (b.mk (n + a.sites) ρ)
  | .elet k a b, n, ρ => .elet n (a.mk (n + 1) ρ) (b.mk (n + 1 + a.sites) (put ρ k n))
  | .efun k a, n, ρ => .efun n (a.mk (n + 1) (put ρ k n))
  | .call a b, n, ρ => .call (a.mk n ρ) (b.mk (n + a.sites) ρ)
  | .eif a b c, n, ρ => .eif (a.mk n ρ) (b.mk (n + a.sites) ρ) (c.mk (n + a.sites + b.sites) ρ)
theorem E.mk_hgt : ∀ (e : E) (n : Int) (ρ : Int → Int), (e.mk n ρ).hgt = e.hgt
  | .num _, _, _ => rfl
  | .nam _, _, _ => rfl
  | .plus a b, n, ρ => by simp only [Env.E.mk, Env.E.hgt, a.mk_hgt, b.mk_hgt]
  | .elet k a b, n, ρ => by simp only [Env.E.mk, Env.E.hgt, a.mk_hgt, b.mk_hgt]
  | .efun k a, n, ρ => by simp only [Env.E.mk, Env.E.hgt, a.mk_hgt]
  | .call a b, n, ρ => by simp only [Env.E.mk, Env.E.hgt, a.mk_hgt, b.mk_hgt]
  | .eif a b c, n, ρ => by simp only [Env.E.mk, Env.E.hgt, a.mk_hgt, b.mk_hgt, c.mk_hgt]
theorem E.mk_size : ∀ (e : E) (n : Int) (ρ : Int → Int), (e.mk n ρ).size = e.size
  | .num _, _, _ => rfl
  | .nam _, _, _ => rfl
  | .plus a b, n, ρ => by simp only [Env.E.mk, Env.E.size, a.mk_size, b.mk_size]
  | .elet k a b, n, ρ => by simp only [Env.E.mk, Env.E.size, a.mk_size, b.mk_size]
  | .efun k a, n, ρ => by simp only [Env.E.mk, Env.E.size, a.mk_size]
  | .call a b, n, ρ => by simp only [Env.E.mk, Env.E.size, a.mk_size, b.mk_size]
  | .eif a b c, n, ρ => by simp only [Env.E.mk, Env.E.size, a.mk_size, b.mk_size, c.mk_size]
/-- the names whose sites lie ahead of m are those that are free -/
theorem E.low_free (m : Int) : ∀ (e : E) (n : Int) (ρ : Int → Int) (σ : Int → Option Int) (S : Int → Prop), m ≤ n → e.ok S → (∀ k, S k → σ k = if ρ k < m then some (ρ k) else none) → E.low m (e.mk n ρ).pre = e.free σ
  | .num _, _, _, _, _, _, _, _ => rfl
  | .nam k, n, ρ, σ, S, hm, ⟨_, _, hk⟩, h => by
    simp only [Env.E.mk, Env.E.pre, Env.E.low, Env.E.free, h k hk]
    split <;> rfl
  | .plus a b, n, ρ, σ, S, hm, ⟨ha, hb⟩, h => by
    simp only [Env.E.mk, Env.E.pre, Env.E.low, Env.E.free, E.low_app]
    rw [E.low_free m a n ρ σ S hm ha h, E.low_free m b (n + a.sites) ρ σ S (by omega) hb h]
  | .call a b, n, ρ, σ, S, hm, ⟨ha, hb⟩, h => by
    simp only [Env.E.mk, Env.E.pre, Env.E.low, Env.E.free, E.low_app]
    rw [E.low_free m a n ρ σ S hm ha h, E.low_free m b (n + a.sites) ρ σ S (by omega) hb h]
  | .eif a b c, n, ρ, σ, S, hm, ⟨ha, hb, hc⟩, h => by
    simp only [Env.E.mk, Env.E.pre, Env.E.low, Env.E.free, E.low_app]
    rw [E.low_free m a n ρ σ S hm ha h, E.low_free m b (n + a.sites) ρ σ S (by omega) hb h, E.low_free m c (n + a.sites + b.sites) ρ σ S (by omega) hc h]
  | .elet k a b, n, ρ, σ, S, hm, ⟨_, _, ha, hb⟩, h => by
    simp only [Env.E.mk, Env.E.pre, Env.E.low, Env.E.free, E.low_app]
    rw [E.low_free m a (n + 1) ρ σ S (by omega) ha h, E.low_free m b (n + 1 + a.sites) (put ρ k n) (st σ k none) _ (by omega) hb fun j hj => ?_]
    unfold st put
    by_cases e : j = k
    · rw [if_pos e, if_pos e, if_neg (by omega)]
    · rw [if_neg e, if_neg e]; exact h j (hj.resolve_left e)
  | .efun k a, n, ρ, σ, S, hm, ⟨_, _, ha⟩, h => by
    simp only [Env.E.mk, Env.E.pre, Env.E.low, Env.E.free, E.low_app]
    rw [E.low_free m a (n + 1) (put ρ k n) (st σ k none) _ (by omega) ha fun j hj => ?_]
    unfold st put
    by_cases e : j = k
    · rw [if_pos e, if_pos e, if_neg (by omega)]
    · rw [if_neg e, if_neg e]; exact h j (hj.resolve_left e)
/-- for each fun its site and the names within ahead of it -/
def E.funs : List E → List (Int × List Int)
  | [] => []
  | .efun n b :: r => (n, srt (E.low n (E.efun n b).pre)) :: E.funs r
  | _ :: r => E.funs r
theorem E.funs_app : ∀ l m : List E, E.funs (l ++ m) = E.funs l ++ E.funs m
  | [], _ => rfl
  | .efun n b :: r, m => congrArg (_ :: ·) (E.funs_app r m)
  | .num _ :: r, m => E.funs_app r m
  | .nam _ :: r, m => E.funs_app r m
  | .plus _ _ :: r, m => E.funs_app r m
  | .elet _ _ _ :: r, m => E.funs_app r m
  | .call _ _ :: r, m => E.funs_app r m
  | .eif _ _ _ :: r, m => E.funs_app r m
theorem E.funs_uses : ∀ (e : E) (n : Int) (ρ : Int → Int) (σ : Int → Option Int) (S : Int → Prop), e.ok S → (∀ k, S k → σ k = some (ρ k) ∧ ρ k < n) → E.funs (e.mk n ρ).pre = e.uses n σ
  | .num _, _, _, _, _, _, _ => rfl
  | .nam _, _, _, _, _, _, _ => rfl
  | .plus a b, n, ρ, σ, S, ⟨ha, hb⟩, h => by
    simp only [Env.E.mk, Env.E.pre, Env.E.funs, Env.E.uses, E.funs_app]
    rw [E.funs_uses a n ρ σ S ha h, E.funs_uses b (n + a.sites) ρ σ S hb fun k hk => ⟨(h k hk).1, by have := (h k hk).2; omega⟩]
  | .call a b, n, ρ, σ, S, ⟨ha, hb⟩, h => by
    simp only [Env.E.mk, Env.E.pre, Env.E.funs, Env.E.uses, E.funs_app]
    rw [E.funs_uses a n ρ σ S ha h, E.funs_uses b (n + a.sites) ρ σ S hb fun k hk => ⟨(h k hk).1, by have := (h k hk).2; omega⟩]
  | .eif a b c, n, ρ, σ, S, ⟨ha, hb, hc⟩, h => by
    simp only [Env.E.mk, Env.E.pre, Env.E.funs, Env.E.uses, E.funs_app]
    rw [E.funs_uses a n ρ σ S ha h, E.funs_uses b (n + a.sites) ρ σ S hb fun k hk => ⟨(h k hk).1, by have := (h k hk).2; omega⟩, E.funs_uses c (n + a.sites + b.sites) ρ σ S hc fun k hk => ⟨(h k hk).1, by have := (h k hk).2; omega⟩]
  | .elet k a b, n, ρ, σ, S, ⟨_, _, ha, hb⟩, h => by
    simp only [Env.E.mk, Env.E.pre, Env.E.funs, Env.E.uses, E.funs_app]
    rw [E.funs_uses a (n + 1) ρ σ S ha fun k hk => ⟨(h k hk).1, by have := (h k hk).2; omega⟩, E.funs_uses b (n + 1 + a.sites) (put ρ k n) (st σ k (some n)) _ hb fun j hj => ?_]
    unfold st put
    by_cases e : j = k
    · rw [if_pos e, if_pos e]; exact ⟨rfl, by omega⟩
    · rw [if_neg e, if_neg e]
      have z := h j (hj.resolve_left e)
      exact ⟨z.1, by have := z.2; omega⟩
  | .efun k a, n, ρ, σ, S, ⟨_, _, ha⟩, h => by
    simp only [Env.E.mk, Env.E.pre, Env.E.funs, Env.E.uses, E.funs_app, Env.E.low]
    rw [E.funs_uses a (n + 1) (put ρ k n) (st σ k (some n)) _ ha fun j hj => ?_, E.low_free n a (n + 1) (put ρ k n) (st σ k none) _ (by omega) ha fun j hj => ?_]
    · unfold st put
      by_cases e : j = k
      · rw [if_pos e, if_pos e, if_neg (by omega)]
      · rw [if_neg e, if_neg e]
        have z := h j (hj.resolve_left e)
        rw [if_pos z.2]; exact z.1
    · unfold st put
      by_cases e : j = k
      · rw [if_pos e, if_pos e]; exact ⟨rfl, by omega⟩
      · rw [if_neg e, if_neg e]
        have z := h j (hj.resolve_left e)
        exact ⟨z.1, by have := z.2; omega⟩
/-! ### of L21 -/
theorem E.pre_in : ∀ (e c : E), c ∈ e.pre → c.hgt ≤ e.hgt ∧ c.size ≤ e.size
  | .num _, c, h => by rw [List.mem_singleton.mp h]; exact ⟨Nat.le_refl _, Nat.le_refl _⟩
  | .nam _, c, h => by rw [List.mem_singleton.mp h]; exact ⟨Nat.le_refl _, Nat.le_refl _⟩
  | .plus a b, c, h => by
    simp only [Env.E.pre, List.mem_cons, List.mem_append] at h
    rcases h with rfl | h | h
    · exact ⟨Nat.le_refl _, Nat.le_refl _⟩
    · have := a.pre_in c h; simp only [Env.E.hgt, Env.E.size]; omega
    · have := b.pre_in c h; simp only [Env.E.hgt, Env.E.size]; omega
  | .elet _ a b, c, h => by
    simp only [Env.E.pre, List.mem_cons, List.mem_append] at h
    rcases h with rfl | h | h
    · exact ⟨Nat.le_refl _, Nat.le_refl _⟩
    · have := a.pre_in c h; simp only [Env.E.hgt, Env.E.size]; omega
    · have := b.pre_in c h; simp only [Env.E.hgt, Env.E.size]; omega
  | .call a b, c, h => by
    simp only [Env.E.pre, List.mem_cons, List.mem_append] at h
    rcases h with rfl | h | h
    · exact ⟨Nat.le_refl _, Nat.le_refl _⟩
    · have := a.pre_in c h; simp only [Env.E.hgt, Env.E.size]; omega
    · have := b.pre_in c h; simp only [Env.E.hgt, Env.E.size]; omega
  | .efun _ a, c, h => by
    simp only [Env.E.pre, List.mem_cons] at h
    rcases h with rfl | h
    · exact ⟨Nat.le_refl _, Nat.le_refl _⟩
    · have := a.pre_in c h; simp only [Env.E.hgt, Env.E.size]; omega
  | .eif a b d, c, h => by
    simp only [Env.E.pre, List.mem_cons, List.mem_append] at h
    rcases h with rfl | (h | h) | h
    · exact ⟨Nat.le_refl _, Nat.le_refl _⟩
    · have := a.pre_in c h; simp only [Env.E.hgt, Env.E.size]; omega
    · have := b.pre_in c h; simp only [Env.E.hgt, Env.E.size]; omega
    · have := d.pre_in c h; simp only [Env.E.hgt, Env.E.size]; omega
def withD (H : Hp) (D : Addr) : Hp := fun b => if b = D then some (.lst []) else H b
section
variable {P : Program} {w : World} {K : PySem.W.Frag} {mg : Str → Option Value} {base : Heap}
def spMK (K : PySem.W.Frag) : Sp := fun vs H Q _ => ∃ (v : V) (e : E), vs = [v] ∧ TE K H v e ∧ e.hgt ≤ 8 ∧ e.size ≤ 60 ∧ e.ok (fun _ => False) ∧
  ∀ (u : V) (H' : Hp), Ext [] H H' → TE K H' u (e.mk 0 fun _ => 0) → Q u H'
end
/-! ### of L22 -/
section
variable {P : Program} {w : World} {K : PySem.W.Frag} {mg : Str → Option Value} {base : Heap}
def spWhole : Sp := fun vs H Q _ => ∃ x lo hi : Int, vs = [.int x, .int lo, .int hi] ∧ lo ≤ x ∧ x ≤ hi ∧ Q (.bl true) H
def E.form : E → List Str
  | .num _ => ["number"] | .nam _ => ["name"] | .plus _ _ => ["part", "part"] | .elet _ _ _ => ["name", "part", "part"] | .efun _ _ => ["name", "part"] | .call _ _ => ["part", "part"] | .eif _ _ _ => ["part", "part", "part"]
theorem form_len (e : E) : e.form.length = e.its.length := by cases e <;> rfl
theorem kb_ss : kitB "str" "str" = some true := by decide +kernel
theorem len_n0 (x : V) (xs : List V) : ¬ decide (V.int (((x :: xs).length : Nat) : Int) = V.int 0) = true := fun c => by
  have := V.int.inj (of_decide_eq_true c)
  rw [List.length_cons] at this
  omega
theorem wq_nn : decide (V.str "number" = V.str "number") = true := by decide +kernel
theorem wq_mn : decide (V.str "name" = V.str "number") = false := by decide +kernel
theorem wq_pn : decide (V.str "part" = V.str "number") = false := by decide +kernel
theorem wq_nm : decide (V.str "number" = V.str "name") = false := by decide +kernel
theorem wq_pm : decide (V.str "part" = V.str "name") = false := by decide +kernel
theorem form_kind {e : E} {S : Int → Prop} (ok : e.ok S) {i : Nat} {f : Str} (h : e.form[i]? = some f) : (f = "number" ∧ ∃ k, e.its[i]? = some (.inl k) ∧ 0 ≤ k ∧ k ≤ 999) ∨ (f = "name" ∧ ∃ k, e.its[i]? = some (.inl k) ∧ 0 ≤ k ∧ k ≤ 9) ∨ f = "part" := by
  cases e with
  | num n =>
    match i, h with
    | 0, h => exact .inl ⟨(Option.some.inj h).symm, n, rfl, ok⟩
  | nam n =>
    match i, h with
    | 0, h => exact .inr (.inl ⟨(Option.some.inj h).symm, n, rfl, ok.1, ok.2.1⟩)
  | plus a b =>
    match i, h with
    | 0, h => exact .inr (.inr (Option.some.inj h).symm)
    | 1, h => exact .inr (.inr (Option.some.inj h).symm)
  | call a b =>
    match i, h with
    | 0, h => exact .inr (.inr (Option.some.inj h).symm)
    | 1, h => exact .inr (.inr (Option.some.inj h).symm)
  | eif a b c =>
    match i, h with
    | 0, h => exact .inr (.inr (Option.some.inj h).symm)
    | 1, h => exact .inr (.inr (Option.some.inj h).symm)
    | 2, h => exact .inr (.inr (Option.some.inj h).symm)
  | elet k a b =>
    match i, h with
    | 0, h => exact .inr (.inl ⟨(Option.some.inj h).symm, k, rfl, ok.1, ok.2.1⟩)
    | 1, h => exact .inr (.inr (Option.some.inj h).symm)
    | 2, h => exact .inr (.inr (Option.some.inj h).symm)
  | efun k a =>
    match i, h with
    | 0, h => exact .inr (.inl ⟨(Option.some.inj h).symm, k, rfl, ok.1, ok.2.1⟩)
    | 1, h => exact .inr (.inr (Option.some.inj h).symm)
def spNeed (K : PySem.W.Frag) : Sp := fun vs H Q _ => ∃ (v : V) (e : E) (S : Int → Prop), vs = [v] ∧ TE K H v e ∧ e.ok S ∧ ∀ H', Ext [] H H' → Q .non H'
end
/-! ### of L23 -/
/-! ### the marker: how many expressions, how many sites -/
theorem ne_es : ¬ (("expressions" : Str) = "sites") := by decide +kernel
theorem ne_me : ¬ (("mark" : Str) = "expressions") := by decide +kernel
theorem ne_ms : ¬ (("mark" : Str) = "sites") := by decide +kernel
theorem ne_ne : ¬ (("next_site" : Str) = "expressions") := by decide +kernel
theorem ne_ns : ¬ (("next_site" : Str) = "sites") := by decide +kernel
def mf (x s : Int) : List (Str × V) := putF "sites" (.int s) (putF "expressions" (.int x) [])
theorem mf_eq (x s : Int) : mf x s = ([("expressions", V.int x), ("sites", V.int s)] : List (Str × V)) := by
  show (if ("expressions" : Str) = "sites" then [(("expressions" : Str), V.int s)] else (("expressions" : Str), V.int x) :: putF "sites" (V.int s) []) = _
  rw [if_neg ne_es]
  rfl
theorem mf_e (x s : Int) : (mf x s).lookup ("expressions" : Str) = some (.int x) := by
  unfold mf
  rw [lookup_putF, if_neg ne_es, lookup_putF, if_pos rfl]
theorem mf_s (x s : Int) : (mf x s).lookup ("sites" : Str) = some (.int s) := by
  unfold mf
  rw [lookup_putF, if_pos rfl]
theorem mf_no (x s : Int) {m : Str} (h1 : ¬ m = "expressions") (h2 : ¬ m = "sites") : (mf x s).lookup m = none := by
  unfold mf
  rw [lookup_putF, if_neg h2, lookup_putF, if_neg h1]
  rfl
theorem mf_put_s (x s t : Int) : putF "sites" (.int t) (mf x s) = mf x t := by
  rw [mf_eq, mf_eq]
  show (if ("expressions" : Str) = "sites" then _ else (("expressions" : Str), V.int x) :: (if ("sites" : Str) = "sites" then [(("sites" : Str), V.int t)] else _)) = ([("expressions", V.int x), ("sites", V.int t)] : List (Str × V))
  rw [if_neg ne_es, if_pos rfl]
theorem mf_put_e (x s y : Int) : putF "expressions" (.int y) (mf x s) = mf y s := by
  rw [mf_eq, mf_eq]
  show (if ("expressions" : Str) = "expressions" then (("expressions" : Str), V.int y) :: [(("sites" : Str), V.int s)] else _) = ([("expressions", V.int y), ("sites", V.int s)] : List (Str × V))
  rw [if_pos rfl]
theorem mf_len (x s : Int) : (mf x s).length < 1000 := by rw [mf_eq]; exact Nat.le_of_ble_eq_true rfl
section
variable {P : Program} {w : World} {K : PySem.W.Frag} {mg : Str → Option Value} {base : Heap}
def spMInit (C : Addr) : Sp := fun vs H Q _ => ∃ (p dx : Addr), vs = [.ref p] ∧ H p = some (.ins C dx []) ∧ ∀ H' : Hp, H' p = some (.ins C dx (mf 0 0)) → (∀ b, b ≠ p → H' b = H b) → Q .non H'
def spNext (C : Addr) : Sp := fun vs H Q _ => ∃ (p dx : Addr) (x s : Int), vs = [.ref p] ∧ H p = some (.ins C dx (mf x s)) ∧ ∀ H' : Hp, H' p = some (.ins C dx (mf x (s + 1))) → (∀ b, b ≠ p → H' b = H b) → Q (.int s) H'
end
/-! ### of L24 -/
theorem TE.tk {K : PySem.W.Frag} {H H' : Hp} (e : TK H H') : ∀ {t : E} {v : V}, TE K H v t → TE K H' v t
  | .num _, _, ⟨p, h, q⟩ => ⟨p, h, e.seqT q⟩
  | .nam _, _, ⟨p, h, q⟩ => ⟨p, h, e.seqT q⟩
  | .plus _ _, _, ⟨p, x, y, h, q, a, b⟩ => ⟨p, x, y, h, e.seqT q, TE.tk e a, TE.tk e b⟩
  | .elet _ _ _, _, ⟨p, x, y, h, q, a, b⟩ => ⟨p, x, y, h, e.seqT q, TE.tk e a, TE.tk e b⟩
  | .efun _ _, _, ⟨p, x, h, q, a⟩ => ⟨p, x, h, e.seqT q, TE.tk e a⟩
  | .call _ _, _, ⟨p, x, y, h, q, a, b⟩ => ⟨p, x, y, h, e.seqT q, TE.tk e a, TE.tk e b⟩
  | .eif _ _ _, _, ⟨p, x, y, z, h, q, a, b, c⟩ => ⟨p, x, y, z, h, e.seqT q, TE.tk e a, TE.tk e b, TE.tk e c⟩
/-- all but the marker at a -/
theorem Exf.refl (a : Addr) (H : Hp) : Exf a H H := fun _ _ h _ => h
theorem Exf.trans {a : Addr} {H H1 H2 : Hp} (x : Exf a H H1) (y : Exf a H1 H2) : Exf a H H2 := fun b o h n => y b o (x b o h n) n
theorem Exf.ext {a : Addr} {H H' : Hp} (x : Ext [] H H') : Exf a H H' := fun b o h _ => x b o h (.inl fun z => nomatch z)
theorem Exf.of {a : Addr} {H H' : Hp} (h : ∀ b, b ≠ a → H' b = H b) : Exf a H H' := fun b o e n => (h b n).trans e
theorem Exf.tkI {a C dx : Addr} {fs : List (Str × V)} {H H' : Hp} (x : Exf a H H') (hF : H a = some (.ins C dx fs)) : TK H H' := fun b xs =>
  ⟨fun h => x b _ h (ne_of h hF fun z => nomatch z), fun o h => x b _ h (ne_of h hF fun z => nomatch z)⟩
/-- what a scope of sites says -/
def Knows (kvs : List (Key × V)) (S : Int → Prop) (ρ : Int → Int) : Prop := ∀ k, S k → valV kvs (Sum.inl k) = some (.int (ρ k))
theorem E.hgt_pos (e : E) : 1 ≤ e.hgt := by cases e <;> simp only [Env.E.hgt] <;> omega
theorem E.size_pos (e : E) : 1 ≤ e.size := by cases e <;> simp only [Env.E.size] <;> omega
theorem dover_ext {H : Hp} {d f : Addr} {kvs : List (Key × V)} {kv : List (Key × V)} {fin : List (Key × V)} (nd : H d = none) (nf : upd (upd H d (.dK [])) d (.dK kvs) f = none) :
    Ext [] H (upd (upd (upd (upd (upd H d (.dK [])) d (.dK kvs)) f (.dK [])) f (.dK kv)) d (.dK fin)) := fun b o h _ => by
  have n1 : b ≠ d := ne_of_none h nd
  have nfd : f ≠ d := fun z => by rw [z, upd_same] at nf; cases nf
  have nf0 : H f = none := by rw [upd_ne nfd, upd_ne nfd] at nf; exact nf
  have n2 : b ≠ f := ne_of_none h nf0
  rw [upd_ne n1, upd_ne n2, upd_ne n2, upd_ne n1, upd_ne n1]
  exact h
theorem Knows.put {kvs : List (Key × V)} {S : Int → Prop} {ρ : Int → Int} (h : Knows kvs S ρ) (k s : Int) : Knows (putK kvs (Sum.inl k) (.int s)) (fun j => j = k ∨ S j) (put ρ k s) := fun j hj => by
  rw [valV_put]
  unfold Env.put
  by_cases e : j = k
  · rw [if_pos (by rw [e]), if_pos e]
  · rw [if_neg (fun z => e (Sum.inl.inj z)), if_neg e]; exact h j (hj.resolve_left e)
def E.isHead : E → Bool
  | .plus _ _ => true
  | .call _ _ => true
  | .eif _ _ _ => true
  | _ => false
theorem E.head_words : ∀ {e : E}, e.isHead = true → e.word ≠ "name" ∧ e.word ≠ "num" ∧ e.word ≠ "let" ∧ e.word ≠ "fun"
  | .plus _ _, _ => ⟨show ("plus" : Str) ≠ "name" by decide +kernel, show ("plus" : Str) ≠ "num" by decide +kernel, show ("plus" : Str) ≠ "let" by decide +kernel, show ("plus" : Str) ≠ "fun" by decide +kernel⟩
  | .call _ _, _ => ⟨show ("call" : Str) ≠ "name" by decide +kernel, show ("call" : Str) ≠ "num" by decide +kernel, show ("call" : Str) ≠ "let" by decide +kernel, show ("call" : Str) ≠ "fun" by decide +kernel⟩
  | .eif _ _ _, _ => ⟨show ("if" : Str) ≠ "name" by decide +kernel, show ("if" : Str) ≠ "num" by decide +kernel, show ("if" : Str) ≠ "let" by decide +kernel, show ("if" : Str) ≠ "fun" by decide +kernel⟩
  | .num _, h => nomatch h
  | .nam _, h => nomatch h
  | .elet _ _ _, h => nomatch h
  | .efun _ _, h => nomatch h
def mkl : List E → Int → (Int → Int) → List E
  | [], _, _ => []
  | e :: r, n, ρ => e.mk n ρ :: mkl r (n + e.sites) ρ
theorem mkl_take : ∀ (l : List E) (n : Int) (ρ : Int → Int) (i : Nat) (e : E), l[i]? = some e → mkl (l.take (i + 1)) n ρ = mkl (l.take i) n ρ ++ [e.mk (n + sitesE (l.take i)) ρ]
  | [], _, _, _, _, h => by simp at h
  | c :: r, n, ρ, 0, e, h => by
    cases h
    rw [List.take_succ_cons, List.take_zero, List.take_zero, show n + sitesE [] = n from Int.add_zero n]
    rfl
  | c :: r, n, ρ, i + 1, e, h => by
    have q := mkl_take r (n + c.sites) ρ i e h
    rw [List.take_succ_cons, List.take_succ_cons, show n + sitesE (c :: r.take i) = n + c.sites + sitesE (r.take i) from (Int.add_assoc _ _ _).symm]
    exact congrArg (_ :: ·) q
def sizesE (l : List E) : Int := (l.map fun c => (c.size : Int)).sum
theorem Its.heads {K : PySem.W.Frag} {H : Hp} {e : E} {vs : List V} (h : e.isHead = true) (hi : Its K H vs e.its) : TEs K H vs e.kids := by
  cases e <;> simp only [Env.E.isHead] at h <;> first | cases h | skip
  · match vs, hi with
    | [_, _], hi => exact hi
  · match vs, hi with
    | [_, _], hi => exact hi
  · match vs, hi with
    | [_, _, _], hi => exact hi
theorem TEs.head {K : PySem.W.Frag} {H : Hp} {e : E} {ws : List V} {t : Addr} {s : Int} {ρ : Int → Int} (h : e.isHead = true) (hw : TEs K H ws (mkl e.kids s ρ)) (ht : SqT K H t (.str e.word :: ws)) : TE K H (.ref t) (e.mk s ρ) := by
  cases e <;> simp only [Env.E.isHead] at h <;> first | cases h | skip
  · match ws, hw with
    | [x, y], ⟨a, b, _⟩ => exact ⟨t, x, y, rfl, ht, a, b⟩
  · match ws, hw with
    | [x, y], ⟨a, b, _⟩ => exact ⟨t, x, y, rfl, ht, a, b⟩
  · match ws, hw with
    | [x, y, z], ⟨a, b, c, _⟩ => exact ⟨t, x, y, z, rfl, ht, a, b, c⟩
theorem E.head_size : ∀ {e : E}, e.isHead = true → (e.size : Int) = 1 + sizesE e.kids ∧ (e.sites : Int) = sitesE e.kids ∧ e.kids.length ≤ 3
  | .plus _ _, _ => by simp [Env.E.size, Env.E.sites, Env.E.kids, Env.E.its, kidsOf, sizesE, sitesE, List.sum_cons]; omega
  | .call _ _, _ => by simp [Env.E.size, Env.E.sites, Env.E.kids, Env.E.its, kidsOf, sizesE, sitesE, List.sum_cons]; omega
  | .eif _ _ _, _ => by simp [Env.E.size, Env.E.sites, Env.E.kids, Env.E.its, kidsOf, sizesE, sitesE, List.sum_cons]; omega
  | .num _, h => nomatch h
  | .nam _, h => nomatch h
  | .elet _ _ _, h => nomatch h
  | .efun _ _, h => nomatch h
theorem TEs.tk {K : PySem.W.Frag} {H H' : Hp} (e : TK H H') : ∀ {vs : List V} {l : List E}, TEs K H vs l → TEs K H' vs l
  | [], [], _ => trivial
  | _ :: _, _ :: _, ⟨a, b⟩ => ⟨TE.tk e a, b.tk e⟩
  | [], _ :: _, h => h.elim
  | _ :: _, [], h => h.elim
theorem sizes_take : ∀ (l : List E) (i : Nat) (c : E), l[i]? = some c → sizesE (l.take (i + 1)) = sizesE (l.take i) + c.size ∧ sizesE (l.take (i + 1)) ≤ sizesE l
  | [], _, _, h => by simp at h
  | e :: r, 0, c, h => by
    cases h
    have nn : ∀ l : List E, 0 ≤ sizesE l := fun l => by
      induction l with
      | nil => exact Int.le_refl 0
      | cons a l ih => show 0 ≤ (a.size : Int) + sizesE l; omega
    refine ⟨?_, ?_⟩
    · show (e.size : Int) + 0 = 0 + e.size
      omega
    · show (e.size : Int) + 0 ≤ e.size + sizesE r
      have := nn r
      omega
  | e :: r, i + 1, c, h => by
    obtain ⟨q1, q2⟩ := sizes_take r i c h
    refine ⟨?_, ?_⟩
    · show (e.size : Int) + sizesE (r.take (i + 1)) = e.size + sizesE (r.take i) + c.size
      omega
    · show (e.size : Int) + sizesE (r.take (i + 1)) ≤ e.size + sizesE r
      omega
theorem sites_take : ∀ (l : List E) (i : Nat) (c : E), l[i]? = some c → sitesE (l.take (i + 1)) = sitesE (l.take i) + c.sites
  | [], _, _, h => by simp at h
  | e :: r, 0, c, h => by
    cases h
    show (e.sites : Int) + 0 = 0 + e.sites
    omega
  | e :: r, i + 1, c, h => by
    have q := sites_take r i c h
    show (e.sites : Int) + sitesE (r.take (i + 1)) = e.sites + sitesE (r.take i) + c.sites
    omega
theorem E.head_ok : ∀ {e : E} {S : Int → Prop}, e.isHead = true → e.ok S → ∀ c ∈ e.kids, c.ok S
  | .plus a b, S, _, ⟨ha, hb⟩, c, hc => by
    rcases List.mem_cons.mp hc with rfl | hc
    · exact ha
    · rw [List.mem_singleton.mp hc]; exact hb
  | .call a b, S, _, ⟨ha, hb⟩, c, hc => by
    rcases List.mem_cons.mp hc with rfl | hc
    · exact ha
    · rw [List.mem_singleton.mp hc]; exact hb
  | .eif a b d, S, _, ⟨ha, hb, hd⟩, c, hc => by
    rcases List.mem_cons.mp hc with rfl | hc
    · exact ha
    · rcases List.mem_cons.mp hc with rfl | hc
      · exact hb
      · rw [List.mem_singleton.mp hc]; exact hd
  | .num _, _, h, _, _, _ => nomatch h
  | .nam _, _, h, _, _, _ => nomatch h
  | .elet _ _ _, _, h, _, _, _ => nomatch h
  | .efun _ _, _, h, _, _, _ => nomatch h
section
variable {P : Program} {w : World} {K : PySem.W.Frag} {mg : Str → Option Value} {base : Heap}
def spMark (K : PySem.W.Frag) (C : Addr) (d : Nat) : Sp := fun vs H Q _ => ∃ (a dx : Addr) (x s : Int) (v : V) (e : E) (b : Addr) (kvs : List (Key × V)) (S : Int → Prop) (ρ : Int → Int) (dep : Int), vs = [.ref a, v, .ref b, .int dep] ∧
  H a = some (.ins C dx (mf x s)) ∧ TE K H v e ∧ e.hgt ≤ d ∧ 0 ≤ dep ∧ dep + e.hgt ≤ 8 ∧ 0 ≤ x ∧ x + e.size ≤ 60 ∧ H b = some (.dK kvs) ∧ kvs.length + d ≤ 90 ∧ e.ok S ∧ Knows kvs S ρ ∧
  ∀ (u : V) (H' : Hp), Exf a H H' → H' a = some (.ins C dx (mf (x + e.size) (s + e.sites))) → TE K H' u (e.mk s ρ) → Q u H'
end
/-! ### of M1 -/
/-! ### each site with the fun in whose activation it is bound -/
def E.owners : E → Int → Option Int → List (Int × Option Int)
  | .num _, _, _ => []
  | .nam _, _, _ => []
  | .plus a b, n, o => a.owners n o ++ b.owners (n + a.sites) o
  | .elet _ a b, n, o => (n, o) :: (a.owners (n + 1) o ++ b.owners (n + 1 + a.sites) o)
  | .efun _ a, n, _ => (n, some n) :: a.owners (n + 1) (some n)
  | .call a b, n, o => a.owners n o ++ b.owners (n + a.sites) o
  | .eif a b c, n, o => a.owners n o ++ b.owners (n + a.sites) o ++ c.owners (n + a.sites + b.sites) o
def owl : List E → Int → Option Int → List (Int × Option Int)
  | [], _, _ => []
  | e :: r, n, o => e.owners n o ++ owl r (n + e.sites) o
theorem owl_take : ∀ (l : List E) (n : Int) (o : Option Int) (i : Nat) (c : E), l[i]? = some c → owl (l.take (i + 1)) n o = owl (l.take i) n o ++ c.owners (n + sitesE (l.take i)) o
  | [], _, _, _, _, h => by simp at h
  | e :: r, n, o, 0, c, h => by
    cases h
    show e.owners n o ++ owl (r.take 0) (n + e.sites) o = [] ++ e.owners (n + 0) o
    rw [List.take_zero, Int.add_zero]
    show e.owners n o ++ [] = [] ++ e.owners n o
    rw [List.append_nil, List.nil_append]
  | e :: r, n, o, i + 1, c, h => by
    have q := owl_take r (n + e.sites) o i c h
    rw [List.take_succ_cons, List.take_succ_cons, show n + sitesE (e :: r.take i) = n + e.sites + sitesE (r.take i) from (Int.add_assoc _ _ _).symm]
    show e.owners n o ++ owl (r.take (i + 1)) (n + e.sites) o = (e.owners n o ++ owl (r.take i) (n + e.sites) o) ++ _
    rw [q, List.append_assoc]
def E.ow (e : E) (n : Int) (o : Option Int) : Option Int := match e with
  | .efun _ _ => some n
  | _ => o
def E.own0 (e : E) (n : Int) (o : Option Int) : List (Int × Option Int) := if e.binds = true then [(n, o)] else []
theorem E.owners_kids (e : E) (n : Int) (o : Option Int) : e.owners n o = e.own0 n (e.ow n o) ++ owl e.kids (n + bI e.binds) (e.ow n o) := by
  cases e <;> simp [E.owners, E.own0, E.ow, E.binds, E.kids, E.its, kidsOf, owl, bI]
def riseO (l : List (Int × Option Int)) (lo hi : Int) : Prop := (l.map (·.1)).Pairwise (· < ·) ∧ ∀ p ∈ l, lo ≤ p.1 ∧ p.1 < hi
theorem riseO_app {a b : List (Int × Option Int)} {lo mid hi : Int} (ha : riseO a lo mid) (hb : riseO b mid hi) (h1 : lo ≤ mid) (h2 : mid ≤ hi) : riseO (a ++ b) lo hi := by
  refine ⟨?_, fun p hp => ?_⟩
  · rw [List.map_append]
    refine List.pairwise_append.mpr ⟨ha.1, hb.1, fun x hx y hy => ?_⟩
    obtain ⟨p, hp, rfl⟩ := List.mem_map.mp hx
    obtain ⟨q, hq, rfl⟩ := List.mem_map.mp hy
    have := (ha.2 p hp).2
    have := (hb.2 q hq).1
    omega
  · rcases List.mem_append.mp hp with m | m
    · have := ha.2 p m; omega
    · have := hb.2 p m; omega
theorem riseO_one (n : Int) (o : Option Int) : riseO [(n, o)] n (n + 1) := ⟨List.pairwise_singleton _ _, fun p hp => by rw [List.mem_singleton.mp hp]; exact ⟨Int.le_refl n, by show n < n + 1; omega⟩⟩
theorem E.owners_rise : ∀ (e : E) (n : Int) (o : Option Int), riseO (e.owners n o) n (n + e.sites) ∧ (e.owners n o).length = e.sites
  | .num _, _, _ => ⟨⟨List.Pairwise.nil, fun _ z => nomatch z⟩, rfl⟩
  | .nam _, _, _ => ⟨⟨List.Pairwise.nil, fun _ z => nomatch z⟩, rfl⟩
  | .plus a b, n, o => by
    obtain ⟨a1, a2⟩ := a.owners_rise n o
    obtain ⟨b1, b2⟩ := b.owners_rise (n + a.sites) o
    refine ⟨?_, by simp only [Env.E.owners, Env.E.sites, List.length_append, a2, b2]⟩
    have h := riseO_app a1 b1 (by omega) (by omega)
    rw [show n + a.sites + b.sites = n + ((Env.E.plus a b).sites : Int) by simp only [Env.E.sites]; omega] at h
    exact h
  | .call a b, n, o => by
    obtain ⟨a1, a2⟩ := a.owners_rise n o
    obtain ⟨b1, b2⟩ := b.owners_rise (n + a.sites) o
    refine ⟨?_, by simp only [Env.E.owners, Env.E.sites, List.length_append, a2, b2]⟩
    have h := riseO_app a1 b1 (by omega) (by omega)
    rw [show n + a.sites + b.sites = n + ((Env.E.call a b).sites : Int) by simp only [Env.E.sites]; omega] at h
    exact h
  | .eif a b c, n, o => by
    obtain ⟨a1, a2⟩ := a.owners_rise n o
    obtain ⟨b1, b2⟩ := b.owners_rise (n + a.sites) o
    obtain ⟨c1, c2⟩ := c.owners_rise (n + a.sites + b.sites) o
    refine ⟨?_, by simp only [Env.E.owners, Env.E.sites, List.length_append, a2, b2, c2]⟩
    have h := riseO_app (riseO_app a1 b1 (by omega) (by omega)) c1 (by omega) (by omega)
    rw [show n + a.sites + b.sites + c.sites = n + ((Env.E.eif a b c).sites : Int) by simp only [Env.E.sites]; omega] at h
    exact h
  | .elet k a b, n, o => by
    obtain ⟨a1, a2⟩ := a.owners_rise (n + 1) o
    obtain ⟨b1, b2⟩ := b.owners_rise (n + 1 + a.sites) o
    refine ⟨?_, by simp only [Env.E.owners, Env.E.sites, List.length_cons, List.length_append, a2, b2]; omega⟩
    have h := riseO_app (riseO_one n o) (riseO_app a1 b1 (by omega) (by omega)) (by omega) (by omega)
    rw [show n + 1 + a.sites + b.sites = n + ((Env.E.elet k a b).sites : Int) by simp only [Env.E.sites]; omega] at h
    exact h
  | .efun k a, n, o => by
    obtain ⟨a1, a2⟩ := a.owners_rise (n + 1) (some n)
    refine ⟨?_, by simp only [Env.E.owners, Env.E.sites, List.length_cons, a2]; omega⟩
    have h := riseO_app (riseO_one n (some n)) a1 (by omega) (by omega)
    rw [show n + 1 + a.sites = n + ((Env.E.efun k a).sites : Int) by simp only [Env.E.sites]; omega] at h
    exact h
/-- as a dict's pairs -/
def oK (l : List (Int × Option Int)) : List (Key × V) := l.map fun p => (Sum.inl p.1, oV p.2)
theorem E.sites_le : ∀ e : E, e.sites ≤ e.size
  | .num _ => Nat.zero_le _
  | .nam _ => Nat.zero_le _
  | .plus a b => by have := a.sites_le; have := b.sites_le; simp only [Env.E.sites, Env.E.size]; omega
  | .elet _ a b => by have := a.sites_le; have := b.sites_le; simp only [Env.E.sites, Env.E.size]; omega
  | .efun _ a => by have := a.sites_le; simp only [Env.E.sites, Env.E.size]; omega
  | .call a b => by have := a.sites_le; have := b.sites_le; simp only [Env.E.sites, Env.E.size]; omega
  | .eif a b c => by have := a.sites_le; have := b.sites_le; have := c.sites_le; simp only [Env.E.sites, Env.E.size]; omega
theorem MTs.tk {K : PySem.W.Frag} {H H' : Hp} (x : TK H H') : ∀ {vs : List V} {l : List E} {n : Int}, MTs K H vs l n → MTs K H' vs l n
  | [], [], _, _ => trivial
  | _ :: _, _ :: _, _, ⟨a, b⟩ => ⟨MT.tk x a, MTs.tk x b⟩
  | [], _ :: _, _, h => h.elim
  | _ :: _, [], _, h => h.elim
theorem owl_split : ∀ (l : List E) (n : Int) (o : Option Int) (i : Nat), ∃ r, owl l n o = owl (l.take i) n o ++ r
  | [], _, _, i => ⟨[], by rw [List.take_nil, List.append_nil]⟩
  | e :: r, n, o, 0 => ⟨owl (e :: r) n o, rfl⟩
  | e :: r, n, o, i + 1 => by
    obtain ⟨t, h⟩ := owl_split r (n + e.sites) o i
    refine ⟨t, ?_⟩
    show e.owners n o ++ owl r (n + e.sites) o = (e.owners n o ++ owl (r.take i) (n + e.sites) o) ++ t
    rw [h, List.append_assoc]
theorem oK_nodup {l : List (Int × Option Int)} (h : (l.map (·.1)).Pairwise (· < ·)) : ((oK l).map (·.1)).Nodup := by
  unfold oK
  rw [List.map_map]
  rw [show (l.map ((·.1) ∘ fun p : Int × Option Int => ((Sum.inl p.1 : Key), oV p.2))) = (l.map (·.1)).map Sum.inl by rw [List.map_map]; rfl]
  refine List.pairwise_map.mpr (h.imp fun {x y} hxy z => ?_)
  have := Sum.inl.inj z
  omega
section
variable {P : Program} {w : World} {K : PySem.W.Frag} {mg : Str → Option Value} {base : Heap}
def spOwn (K : PySem.W.Frag) (d : Nat) : Sp := fun vs H Q _ => ∃ (v : V) (e : E) (n : Int) (o : Option Int), vs = [v, oV o] ∧ MT K H v e n ∧ e.hgt ≤ d ∧ d ≤ 9 ∧ e.size ≤ 60 ∧ 0 ≤ n ∧
  ∀ (p : Addr) (H' : Hp), Ext [] H H' → H p = none → H' p = some (.dK (oK (e.owners n o))) → Q (.ref p) H'
end
end Env
end
section
set_option Elab.async false
set_option linter.all false
set_option maxRecDepth 100000
set_option maxHeartbeats 4000000
namespace Env
open PySem PySem.Spec PyProof.Rows L2
section
variable {X : Cx} {K : PySem.W.Frag}
theorem anyK (h : X.K = K) (hc : X.calm = true) : CallR X (.builtin "any") (rAny K) := h ▸ cr_any hc
def rListOf (K : PySem.W.Frag) : List V → Hp → VK → Prop := fun xs H Q => ∃ p ys, xs = [.ref p] ∧ (SqL K H p ys ∨ SqT K H p ys) ∧ ∀ l, H l = none → Q (.ref l) (upd H l (.lst ys))
theorem call_listK (h : X.K = K) : CallR X (.type "list") (rListOf K) := h ▸ call_list_of
theorem mtIx (h : X.K = K) : MtR X "list.index" (rIndex K) := h ▸ mt_index
theorem pe_fldK {o : Expr} {f : Str} {pos : Pos} {ta : L2.TE} (h : X.K = K) (ho : PE X o ta) (hb : attributeBase o f X.env (eval o X.env) = eval o X.env) : PE X (.Attribute o f pos) (tFld K ta f) := h ▸ pe_fld ho hb
theorem pa_starK {e : Expr} {es : List Expr} {te : L2.TE} {t : TA} {p : Pos} (h : X.K = K) (he : PE X e te) (hr : PA X es t) (hs : starEach (.Starred e p :: es) X.env = (true, eval e X.env) :: starEach es X.env := by rfl) : PA X (.Starred e p :: es) (StX.tStar K te t) := h ▸ StX.pa_star he hr hs
theorem catT (h : X.K = K) : OpR X (binaryOp .Add) (rCatT K) := h ▸ op_catT
def rTupleOf (K : PySem.W.Frag) : List V → Hp → VK → Prop := fun xs H Q => ∃ p ys, xs = [.ref p] ∧ ((SqL K H p ys ∧ ∀ l, H l = none → Q (.ref l) (upd H l (.tup ys))) ∨ (SqT K H p ys ∧ Q (.ref p) H))
theorem call_tupleK (h : X.K = K) : CallR X (.type "tuple") (rTupleOf K) := h ▸ call_tuple_of
theorem pe_bmK {o e : Expr} {es : List Expr} {to : L2.TE} {t : TA} {name : Str} {apos cpos : Pos} {T id : String} {r : V → List V → Hp → VK → Prop} (h : X.K = K) (pa : PlainAttrs T) (slot : Slot T name id) (hty : typeOf (.builtin id) = pure (.type "method_descriptor")) (hm : MtR X id r) (ho : PE X o to) (ha : PA X (e :: es) t)
    (hbase : attributeBase o name X.env (eval o X.env) = eval o X.env := by rfl)
    (hfew : ((backTo cpos (starEach (e :: es) X.env)).all (fun x => !x.1) && (backToKw cpos (keywordEach [] X.env)).all (fun x => x.1.isSome)
      && decide ((e :: es).length + ([] : List Keyword).length + (if ([] : List Keyword).isEmpty then 0 else 1) < 30)) = true := by rfl)
    (hline : (apos.endLine == cpos.line) = true := by rfl) (hs : starEach (e :: es) X.env = (false, eval e X.env) :: starEach es X.env := by rfl) (hplain : (backTo cpos (starEach es X.env)).any (·.1) = false := by rfl) :
    PE X (.Call (.Attribute o name apos) (e :: es) [] cpos) (tBM K T r to t) := h ▸ pe_bm pa slot hty hm ho ha hbase hfew hline hs hplain
/-- a comprehension's scope within a comprehension -/
def rlb (scope sc : Scope) : Scope := { scope with names := scope.names.map fun (n, k) => if (k == NameKind.free && sc.kind == .function && sc.names.lookup n == some .cell) then (n, NameKind.cell) else (n, k) }
theorem blkOk_in {N : List Str} {sc scope0 scope : Scope} {own : List (Str × Nat)} {env : PySem.Env} (hs : relabel scope0 env = rlb scope0 sc) (h : blkC N (rlb scope0 sc) scope own = true) : BlkOk N (relabel scope0 env) scope own := by
  rw [hs]
  exact blkOk_by h
end
end Env
end
section
set_option Elab.async false
set_option linter.all false
set_option maxRecDepth 100000
set_option maxHeartbeats 4000000
namespace Env
open PySem L2
/-! ### the lets of an expression that stand in no fun within it -/
def E.lets : E → List Int
  | .num _ => []
  | .nam _ => []
  | .plus a b => a.lets ++ b.lets
  | .elet k a b => k :: (a.lets ++ b.lets)
  | .efun _ _ => []
  | .call a b => a.lets ++ b.lets
  | .eif a b c => a.lets ++ (b.lets ++ c.lets)
def E.letHd : E → List Int
  | .elet k _ _ => [k]
  | _ => []
def E.isFun : E → Bool
  | .efun _ _ => true
  | _ => false
theorem E.lets_kids {e : E} (h : e.isFun = false) : e.lets = e.letHd ++ (e.kids.map E.lets).flatten := by
  cases e <;> simp [E.isFun] at h <;> simp [E.lets, E.letHd, E.kids, E.its, kidsOf]
theorem E.lets_len : ∀ e : E, e.lets.length ≤ e.size
  | .num _ => Nat.zero_le _
  | .nam _ => Nat.zero_le _
  | .efun _ _ => Nat.zero_le _
  | .plus a b => by have := a.lets_len; have := b.lets_len; simp only [Env.E.lets, Env.E.size, List.length_append]; omega
  | .call a b => by have := a.lets_len; have := b.lets_len; simp only [Env.E.lets, Env.E.size, List.length_append]; omega
  | .elet _ a b => by have := a.lets_len; have := b.lets_len; simp only [Env.E.lets, Env.E.size, List.length_cons, List.length_append]; omega
  | .eif a b c => by have := a.lets_len; have := b.lets_len; have := c.lets_len; simp only [Env.E.lets, Env.E.size, List.length_append]; omega
/-- what is told of the lets up to the i-th part -/
def E.letsTo (e : E) (i : Nat) : List Int := e.letHd ++ ((kidsOf (e.its.take i)).map E.lets).flatten
theorem E.letsTo_all {e : E} {i : Nat} (hf : e.isFun = false) (h : e.its.length ≤ i) : e.letsTo i = e.lets := by
  unfold Env.E.letsTo
  rw [List.take_of_length_le h, E.lets_kids hf]
  rfl
theorem E.letsTo_num {e : E} {i : Nat} {k : Int} (h : e.its[i]? = some (.inl k)) : e.letsTo (i + 1) = e.letsTo i := by
  unfold Env.E.letsTo
  rw [List.take_succ, h, kidsOf_app]
  show _ ++ ((kidsOf _ ++ []).map Env.E.lets).flatten = _
  rw [List.append_nil]
theorem E.letsTo_sub {e c : E} {i : Nat} (h : e.its[i]? = some (.inr c)) : e.letsTo (i + 1) = e.letsTo i ++ c.lets := by
  unfold Env.E.letsTo
  rw [List.take_succ, h, kidsOf_app]
  show _ ++ ((kidsOf _ ++ [c]).map Env.E.lets).flatten = _
  rw [List.map_append, List.flatten_append, List.map_cons, List.map_nil, List.flatten_singleton, List.append_assoc]
theorem E.letsTo_len {e : E} (hf : e.isFun = false) (i : Nat) : (e.letsTo i).length ≤ e.size := by
  have q := e.lets_len
  rw [E.lets_kids hf] at q
  unfold Env.E.letsTo
  have : e.kids = kidsOf (e.its.take i) ++ kidsOf (e.its.drop i) := by rw [← kidsOf_app, List.take_append_drop]; rfl
  rw [this, List.map_append, List.flatten_append] at q
  simp only [List.length_append] at q ⊢
  omega
/-! ### layouts -/
structure Lay where
  site : Option Int
  body : E
  used : List Int
  sites : List Int
  housed : List Int
/-- what the funs within it use from outside -/
def E.inner (b : E) : List (List Int) := (E.funs b.pre).map (·.2)
def usedBy (s : Option Int) (b : E) : List Int := match s with
  | none => []
  | some n => srt (E.low n b.pre)
def sitesBy (s : Option Int) (b : E) : List Int := match s with
  | none => b.lets
  | some n => n :: b.lets
def mkLay (s : Option Int) (b : E) : Lay := ⟨s, b, usedBy s b, sitesBy s b, (sitesBy s b).filter fun k => b.inner.any fun u => u.contains k⟩
def layF (s : Option Int) (bv : V) (ul sl hl : Addr) : List (Str × V) := [("site", oV s), ("body", bv), ("used", .ref ul), ("sites", .ref sl), ("housed", .ref hl)]
/-- a layout at p; H0: what its lists are no part of -/
def LayAt (K : PySem.W.Frag) (C : Addr) (H0 H : Hp) (p : Addr) (l : Lay) : Prop := ∃ dx bv ul sl hl, H0 ul = none ∧ H p = some (.ins C dx (layF l.site bv ul sl hl)) ∧ TE K H bv l.body ∧ H ul = some (.lst (l.used.map V.int)) ∧ H sl = some (.lst (l.sites.map V.int)) ∧ H hl = some (.lst (l.housed.map V.int))
theorem LayAt.ext {K : PySem.W.Frag} {C : Addr} {H0 H H' : Hp} {p : Addr} {l : Lay} (x : Ext [] H H') (h : LayAt K C H0 H p l) : LayAt K C H0 H' p l := by
  obtain ⟨dx, bv, ul, sl, hl, n, a, b, c, d, e⟩ := h
  exact ⟨dx, bv, ul, sl, hl, n, x _ _ a (.inl fun z => nomatch z), TE.ext x b, x.lst (fun z => nomatch z) c, x.lst (fun z => nomatch z) d, x.lst (fun z => nomatch z) e⟩
/-- the layouts of a marked program: its own, then its funs', by sites -/
def laysOf : List E → List (Int × Lay)
  | [] => []
  | .efun n b :: r => (n, mkLay (some n) b) :: laysOf r
  | _ :: r => laysOf r
def E.lays (t : E) : List (Leaf × Lay) := (.none, mkLay none t) :: (laysOf t.pre).map fun p => (.num p.1, p.2)
theorem laysOf_app : ∀ l m : List E, laysOf (l ++ m) = laysOf l ++ laysOf m
  | [], _ => rfl
  | .efun n b :: r, m => congrArg (_ :: ·) (laysOf_app r m)
  | .num _ :: r, m => laysOf_app r m
  | .nam _ :: r, m => laysOf_app r m
  | .plus _ _ :: r, m => laysOf_app r m
  | .elet _ _ _ :: r, m => laysOf_app r m
  | .call _ _ :: r, m => laysOf_app r m
  | .eif _ _ _ :: r, m => laysOf_app r m
theorem low_efun (n m : Int) (b : E) : E.low n (E.efun m b).pre = E.low n b.pre := rfl
theorem laysOf_funs : ∀ l : List E, (laysOf l).map (fun p => (p.1, p.2.used)) = E.funs l
  | [] => rfl
  | .efun n b :: r => congrArg (_ :: ·) (laysOf_funs r)
  | .num _ :: r => laysOf_funs r
  | .nam _ :: r => laysOf_funs r
  | .plus _ _ :: r => laysOf_funs r
  | .elet _ _ _ :: r => laysOf_funs r
  | .call _ _ :: r => laysOf_funs r
  | .eif _ _ _ :: r => laysOf_funs r
/-- a dict of layouts -/
def LaysAt (K : PySem.W.Frag) (C : Addr) (H0 H : Hp) : List (Leaf × V) → List (Leaf × Lay) → Prop
  | [], [] => True
  | kv :: r, l :: m => (kv.1 = l.1 ∧ ∃ p, kv.2 = .ref p ∧ LayAt K C H0 H p l.2) ∧ LaysAt K C H0 H r m
  | _, _ => False
theorem LaysAt.ext {K : PySem.W.Frag} {C : Addr} {H0 H H' : Hp} (x : Ext [] H H') : ∀ {kvs : List (Leaf × V)} {l : List (Leaf × Lay)}, LaysAt K C H0 H kvs l → LaysAt K C H0 H' kvs l
  | [], [], _ => trivial
  | _ :: _, _ :: _, ⟨⟨a, p, b, c⟩, d⟩ => ⟨⟨a, p, b, c.ext x⟩, d.ext x⟩
  | [], _ :: _, h => h.elim
  | _ :: _, [], h => h.elim
theorem LaysAt.len {K : PySem.W.Frag} {C : Addr} {H0 H : Hp} : ∀ {kvs : List (Leaf × V)} {l : List (Leaf × Lay)}, LaysAt K C H0 H kvs l → kvs.length = l.length
  | [], [], _ => rfl
  | _ :: _, _ :: _, ⟨_, d⟩ => congrArg (· + 1) d.len
  | [], _ :: _, h => h.elim
  | _ :: _, [], h => h.elim
theorem LaysAt.keys {K : PySem.W.Frag} {C : Addr} {H0 H : Hp} : ∀ {kvs : List (Leaf × V)} {l : List (Leaf × Lay)}, LaysAt K C H0 H kvs l → kvs.map (·.1) = l.map (·.1)
  | [], [], _ => rfl
  | _ :: _, _ :: _, ⟨⟨a, _⟩, d⟩ => by rw [List.map_cons, List.map_cons, a, d.keys]
  | [], _ :: _, h => h.elim
  | _ :: _, [], h => h.elim
theorem LaysAt.snoc {K : PySem.W.Frag} {C : Addr} {H0 H : Hp} {k : Leaf} {p : Addr} {y : Lay} (h : LayAt K C H0 H p y) : ∀ {kvs : List (Leaf × V)} {l : List (Leaf × Lay)}, LaysAt K C H0 H kvs l → LaysAt K C H0 H (kvs ++ [(k, .ref p)]) (l ++ [(k, y)])
  | [], [], _ => ⟨⟨rfl, p, rfl, h⟩, trivial⟩
  | _ :: _, _ :: _, ⟨a, d⟩ => ⟨a, LaysAt.snoc h d⟩
  | [], _ :: _, h => h.elim
  | _ :: _, [], h => h.elim
theorem LaysAt.at {K : PySem.W.Frag} {C : Addr} {H0 H : Hp} : ∀ {kvs : List (Leaf × V)} {l : List (Leaf × Lay)} {i : Nat} {kv : Leaf × V}, LaysAt K C H0 H kvs l → kvs[i]? = some kv → ∃ y p, l[i]? = some (kv.1, y) ∧ kv.2 = .ref p ∧ LayAt K C H0 H p y
  | [], _, _, _, _, z => by simp at z
  | kv :: _, y :: _, 0, _, ⟨⟨a, p, b, c⟩, _⟩, z => by cases z; exact ⟨y.2, p, by rw [a]; rfl, b, c⟩
  | _ :: _, _ :: _, i + 1, _, ⟨_, b⟩, z => LaysAt.at (i := i) b z
  | _ :: _, [], _, _, h, _ => h.elim
/-- an instance is made: two new addresses -/
theorem Ext.made {ms : List Addr} {H H1 : Hp} {a dx C : Addr} {fs : List (Str × V)} (na : H a = none) (nd : H dx = none) (h : Ext ms (upd (upd H dx (.own a)) a (.ins C dx [])) H1) : Ext ms H H1 := fun b o e n =>
  h b o (by rw [upd_ne (ne_of_none e na), upd_ne (ne_of_none e nd)]; exact e) n
/-- all but a, which is new since H -/
theorem Ext.ofExf {H H' : Hp} {a : Addr} (x : Exf a H H') (h : H a = none) : Ext [] H H' := fun b o e _ => x b o e (ne_of_none e h)
/-- o.f = y, the instance at p -/
theorem fld_at {K : PySem.W.Frag} {D : Ends} {σ : L2.St} {H : Hp} {p C dx : Addr} {fs fs' : List (Str × V)} {f : Str} {y : V} (hp : H p = some (.ins C dx fs)) (c : Cls K C) (n : NoAttr K C f) (hl : fs.length < 1000) (hfs : putF f y fs = fs')
    (k : ∀ H', H' p = some (.ins C dx fs') → Exf p H H' → D.nx σ H') : ∃ a C dx fs, V.ref p = .ref a ∧ H a = some (.ins C dx fs) ∧ Cls K C ∧ NoAttr K C f ∧ fs.length < 1000 ∧ D.nx σ (upd H a (.ins C dx (putF f y fs))) :=
  ⟨p, C, dx, fs, rfl, hp, c, n, hl, k _ (by rw [upd_same, hfs]) (Exf.of fun b nb => upd_ne nb)⟩
/-- o.f -/
theorem get_at {K : PySem.W.Frag} {Q : VK} {H : Hp} {p C dx : Addr} {fs : List (Str × V)} {f : Str} {y : V} (hp : H p = some (.ins C dx fs)) (c : Cls K C) (n : NoAttr K C f) (hl : fs.lookup f = some y) (k : Q y H) :
    ∃ a C dx fs v, V.ref p = .ref a ∧ H a = some (.ins C dx fs) ∧ Cls K C ∧ NoAttr K C f ∧ fs.lookup f = some v ∧ Q v H := ⟨p, C, dx, fs, y, rfl, hp, c, n, hl, k⟩
theorem Exf.fresh {a b : Addr} {H H' : Hp} (x : Exf a H H') (n : H' b = none) (h : b ≠ a) : H b = none := by
  cases e : H b with
  | none => rfl
  | some o => have := x b o e h; rw [n] at this; cases this
/-! ### dicts by leaves, kept -/
theorem LD.no_lst {P : Program} {w : World} {d : Addr} {kvs : List (Leaf × V)} {es : Array DictEntry} {ep : Nat} {xs : List V} : LD P w d kvs es ep ≠ .lst xs := fun z => by unfold LD at z; cases z
theorem LD.no_tup {P : Program} {w : World} {d : Addr} {kvs : List (Leaf × V)} {es : Array DictEntry} {ep : Nat} {xs : List V} : LD P w d kvs es ep ≠ .tup xs := fun z => by unfold LD at z; cases z
theorem LD.no_ins {P : Program} {w : World} {d C dx : Addr} {kvs : List (Leaf × V)} {es : Array DictEntry} {ep : Nat} {fs : List (Str × V)} : LD P w d kvs es ep ≠ .ins C dx fs := fun z => by unfold LD at z; cases z
theorem LD.no_frz {P : Program} {w : World} {d : Addr} {kvs : List (Leaf × V)} {es : Array DictEntry} {ep : Nat} {o : Obj} {u : HO} : LD P w d kvs es ep ≠ .frz o u := fun z => by unfold LD at z; cases z
theorem IsLD.ext {P : Program} {w : World} {ms : List Addr} {H H' : Hp} {d : Addr} {kvs : List (Leaf × V)} (x : Ext ms H H') (h : IsLD P w H d kvs) : IsLD P w H' d kvs :=
  let ⟨es, ep, e⟩ := h; ⟨es, ep, x _ _ e (.inr fun _ => LD.no_lst)⟩
theorem IsLD.exf {P : Program} {w : World} {H H' : Hp} {a d : Addr} {kvs : List (Leaf × V)} (x : Exf a H H') (n : d ≠ a) (h : IsLD P w H d kvs) : IsLD P w H' d kvs :=
  let ⟨es, ep, e⟩ := h; ⟨es, ep, x _ _ e n⟩
theorem IsLD.ne_none {P : Program} {w : World} {H : Hp} {d a : Addr} {kvs : List (Leaf × V)} (h : IsLD P w H d kvs) (n : H a = none) : a ≠ d := fun z => by
  obtain ⟨_, _, e⟩ := h
  rw [z, e] at n; cases n
theorem IsLD.ne_lst {P : Program} {w : World} {H : Hp} {d a : Addr} {kvs : List (Leaf × V)} {xs : List V} (h : IsLD P w H d kvs) (n : H a = some (.lst xs)) : a ≠ d := fun z => by
  obtain ⟨_, _, e⟩ := h
  rw [z, e] at n; exact LD.no_lst (Option.some.inj n)
theorem IsLD.ne_ins {P : Program} {w : World} {H : Hp} {d a C dx : Addr} {kvs : List (Leaf × V)} {fs : List (Str × V)} (h : IsLD P w H d kvs) (n : H a = some (.ins C dx fs)) : a ≠ d := fun z => by
  obtain ⟨_, _, e⟩ := h
  rw [z, e] at n; exact LD.no_ins (Option.some.inj n)
theorem Exf.tkL {P : Program} {w : World} {H H' : Hp} {a : Addr} {kvs : List (Leaf × V)} (x : Exf a H H') (h : IsLD P w H a kvs) : TK H H' := fun b xs => by
  obtain ⟨_, _, e⟩ := h
  exact ⟨fun q => x b _ q fun z => by rw [z, e] at q; exact LD.no_tup (Option.some.inj q), fun o q => x b _ q fun z => by rw [z, e] at q; exact LD.no_frz (Option.some.inj q)⟩
theorem LayAt.exfL {P : Program} {w : World} {K : PySem.W.Frag} {C a p : Addr} {H0 H H' : Hp} {l : Lay} {kvs : List (Leaf × V)} (x : Exf a H H') (h : IsLD P w H a kvs) (y : LayAt K C H0 H p l) : LayAt K C H0 H' p l := by
  obtain ⟨dx, bv, ul, sl, hl, n, q1, q2, q3, q4, q5⟩ := y
  exact ⟨dx, bv, ul, sl, hl, n, x _ _ q1 (h.ne_ins q1), TE.tk (x.tkL h) q2, x _ _ q3 (h.ne_lst q3), x _ _ q4 (h.ne_lst q4), x _ _ q5 (h.ne_lst q5)⟩
theorem LaysAt.exfL {P : Program} {w : World} {K : PySem.W.Frag} {C a : Addr} {H0 H H' : Hp} {ls : List (Leaf × V)} (x : Exf a H H') (h : IsLD P w H a ls) : ∀ {kvs : List (Leaf × V)} {l : List (Leaf × Lay)}, LaysAt K C H0 H kvs l → LaysAt K C H0 H' kvs l
  | [], [], _ => trivial
  | _ :: _, _ :: _, ⟨⟨a, p, b, c⟩, d⟩ => ⟨⟨a, p, b, c.exfL x h⟩, d.exfL x h⟩
  | [], _ :: _, h => h.elim
  | _ :: _, [], h => h.elim
theorem Exf.ext0 {H H' : Hp} {a : Addr} (x : Exf a H H') (h : H a = none) : Ext [] H H' := fun b o e _ => x b o e (ne_of_none e h)
def spLays (P : Program) (w : World) (K : PySem.W.Frag) (C : Addr) : Sp := fun vs H Q _ => ∃ (v : V) (t : E), vs = [v] ∧ TE K H v t ∧ t.hgt ≤ 8 ∧ t.size ≤ 60 ∧ ((laysOf t.pre).map (·.1)).Pairwise (· < ·) ∧
  ∀ (p : Addr) (H' : Hp) (kvs : List (Leaf × V)), Ext [] H H' → H p = none → IsLD P w H' p kvs → LaysAt K C H H' kvs t.lays → Q (.ref p) H'
theorem made_ext {H H' : Hp} {x dx C : Addr} {fs : List (Str × V)} (na : H x = none) (nd : H dx = none) (y : Exf x (upd (upd H dx (.own x)) x (.ins C dx fs)) H') : Ext [] H H' := fun b o e _ =>
  y b o (by rw [upd_ne (ne_of_none e na), upd_ne (ne_of_none e nd)]; exact e) (ne_of_none e na)
theorem upd_none {H : Hp} {a b : Addr} {o : HO} (h : upd H a o b = none) : H b = none := by
  by_cases e : b = a
  · subst e; rw [upd_same] at h; cases h
  · rw [upd_ne e] at h; exact h
theorem valV_none_of {kvs : List (Leaf × V)} {k : Leaf} (h : k ∉ kvs.map (·.1)) : valV kvs k = none := by
  unfold valV
  rw [Option.map_eq_none_iff, List.find?_eq_none]
  intro x hx
  simp only [decide_eq_true_eq]
  exact fun z => h (List.mem_map.mpr ⟨x, hx, z⟩)
theorem laysOf_site : ∀ {l : List E} {p : Int × Lay}, p ∈ laysOf l → p.2.site = some p.1
  | [], _, h => nomatch h
  | .efun _ _ :: _, _, h => by
    rcases List.mem_cons.mp h with rfl | h
    · rfl
    · exact laysOf_site h
  | .num _ :: l, _, h => laysOf_site (l := l) h
  | .nam _ :: l, _, h => laysOf_site (l := l) h
  | .plus _ _ :: l, _, h => laysOf_site (l := l) h
  | .elet _ _ _ :: l, _, h => laysOf_site (l := l) h
  | .call _ _ :: l, _, h => laysOf_site (l := l) h
  | .eif _ _ _ :: l, _, h => laysOf_site (l := l) h
theorem laysOf_len : ∀ l : List E, (laysOf l).length ≤ l.length
  | [] => Nat.le_refl 0
  | .efun _ _ :: l => Nat.succ_le_succ (laysOf_len l)
  | .num _ :: l => Nat.le_succ_of_le (laysOf_len l)
  | .nam _ :: l => Nat.le_succ_of_le (laysOf_len l)
  | .plus _ _ :: l => Nat.le_succ_of_le (laysOf_len l)
  | .elet _ _ _ :: l => Nat.le_succ_of_le (laysOf_len l)
  | .call _ _ :: l => Nat.le_succ_of_le (laysOf_len l)
  | .eif _ _ _ :: l => Nat.le_succ_of_le (laysOf_len l)
/-- lists of ints, at new places -/
def LLs (H0 H : Hp) : List V → List (List Int) → Prop
  | [], [] => True
  | v :: vs, u :: us => (∃ l, v = .ref l ∧ H0 l = none ∧ H l = some (.lst (u.map V.int))) ∧ LLs H0 H vs us
  | _, _ => False
theorem LLs.ext {H0 H H' : Hp} (x : Ext [] H H') : ∀ {vs : List V} {us : List (List Int)}, LLs H0 H vs us → LLs H0 H' vs us
  | [], [], _ => trivial
  | _ :: _, _ :: _, ⟨⟨l, a, b, c⟩, d⟩ => ⟨⟨l, a, b, x.lst (fun z => nomatch z) c⟩, d.ext x⟩
  | [], _ :: _, h => h.elim
  | _ :: _, [], h => h.elim
theorem LLs.exf {H0 H H' : Hp} {p : Addr} {o : HO} (x : Exf p H H') (hp : H0 p = some o) : ∀ {vs : List V} {us : List (List Int)}, LLs H0 H vs us → LLs H0 H' vs us
  | [], [], _ => trivial
  | _ :: _, _ :: _, ⟨⟨l, a, b, c⟩, d⟩ => ⟨⟨l, a, b, x _ _ c fun z => by rw [z, hp] at b; cases b⟩, d.exf x hp⟩
  | [], _ :: _, h => h.elim
  | _ :: _, [], h => h.elim
theorem LLs.len {H0 H : Hp} : ∀ {vs : List V} {us : List (List Int)}, LLs H0 H vs us → vs.length = us.length
  | [], [], _ => rfl
  | _ :: _, _ :: _, ⟨_, d⟩ => congrArg (· + 1) d.len
  | [], _ :: _, h => h.elim
  | _ :: _, [], h => h.elim
theorem LLs.at {H0 H : Hp} : ∀ {vs : List V} {us : List (List Int)} {i : Nat} {v : V}, LLs H0 H vs us → vs[i]? = some v → ∃ u l, us[i]? = some u ∧ v = .ref l ∧ H0 l = none ∧ H l = some (.lst (u.map V.int))
  | [], _, _, _, _, z => by simp at z
  | _ :: _, u :: _, 0, _, ⟨⟨l, a⟩, _⟩, z => ⟨u, l, rfl, by cases z; exact a⟩
  | _ :: _, _ :: _, i + 1, _, ⟨_, b⟩, z => b.at (i := i) z
  | _ :: _, [], _, _, h, _ => h.elim
theorem LLs.snoc {H0 H : Hp} {l : Addr} {u : List Int} (n : H0 l = none) (h : H l = some (.lst (u.map V.int))) : ∀ {vs : List V} {us : List (List Int)}, LLs H0 H vs us → LLs H0 H (vs ++ [.ref l]) (us ++ [u])
  | [], [], _ => ⟨⟨l, rfl, n, h⟩, trivial⟩
  | _ :: _, _ :: _, ⟨a, d⟩ => ⟨a, d.snoc n h⟩
  | [], _ :: _, h => h.elim
  | _ :: _, [], h => h.elim
theorem LLs.put {H0 H : Hp} {D : Addr} {o u : HO} (h0 : H0 D = some o) : ∀ {vs : List V} {us : List (List Int)}, LLs H0 H vs us → LLs H0 (upd H D u) vs us
  | [], [], _ => trivial
  | _ :: _, _ :: _, ⟨⟨l, a, b, c⟩, d⟩ => ⟨⟨l, a, b, by rw [upd_ne fun z => by rw [z, h0] at b; cases b]; exact c⟩, d.put h0⟩
  | [], _ :: _, h => h.elim
  | _ :: _, [], h => h.elim
theorem LLs.anew {H0 H1 H : Hp} (x : ∀ l xs, H l = some (.lst xs) → H0 l = none → H1 l = none) : ∀ {vs : List V} {us : List (List Int)}, LLs H0 H vs us → LLs H1 H vs us
  | [], [], _ => trivial
  | _ :: _, _ :: _, ⟨⟨l, a, b, c⟩, d⟩ => ⟨⟨l, a, x _ _ c b, c⟩, d.anew x⟩
  | [], _ :: _, h => h.elim
  | _ :: _, [], h => h.elim
theorem inV_int (k : Int) : ∀ u : List Int, inV (.int k) (u.map V.int) = u.contains k
  | [] => rfl
  | a :: u => by
    have q := inV_int k u
    unfold inV at q ⊢
    rw [List.map_cons, List.any_cons, q, List.contains_cons]
    congr 1
    show eqV (.int a) (.int k) = (k == a)
    show (a == k) = (k == a)
    by_cases e : a = k
    · subst e; rfl
    · rw [beq_eq_false_iff_ne.mpr e, beq_eq_false_iff_ne.mpr (Ne.symm e)]
theorem flat_ints (u : List Int) : (u.map V.int).all flatV = true := by
  rw [List.all_eq_true]
  intro x hx
  obtain ⟨k, _, rfl⟩ := List.mem_map.mp hx
  rfl
end Env
end
section
set_option Elab.async false
set_option linter.all false
set_option maxRecDepth 100000
namespace Env
open PySem L2
/-- a method of the text, found -/
structure Dm (K : PySem.W.Frag) (C : Addr) (x qual : Str) (st : Stmt) (ps : List Str) where
  f : Addr
  d : FuncData
  F : Fun K x qual st f d
  b : Binds K d ps []
  m : Meth K C x f
/-- the table of forms, as it stands in the written part -/
structure Fm (K : PySem.W.Frag) (w : World) (mg : Str → Option Value) where
  a : Addr
  m : mg "FORMS" = some (.ref a)
  es : Array DictEntry
  n : Nat
  D : KDict K w a es n
  at_ : ∀ c l, (c, l) ∈ ([("num", ["number"]), ("name", ["name"]), ("plus", ["part", "part"]), ("let", ["name", "part", "part"]), ("fun", ["name", "part"]), ("call", ["part", "part"]), ("if", ["part", "part", "part"])] : List (Str × List Str)) →
    ∃ (p : Addr) (o : Obj) (its : Array Value) (k : Nat), PySem.W.nsIn K a c = some (some (.ref p)) ∧ K.lookup p = some o ∧ o.cls = .type "tuple" ∧ o.data = .seq its k ∧ its.size ≤ sizeLine ∧ Vals (l.map V.str) its.toList
/-- the ways, a tuple of the written part -/
structure Wy (K : PySem.W.Frag) (mg : Str → Option Value) where
  a : Addr
  m : mg "WAYS" = some (.ref a)
  at_ : ∀ H : Hp, SqT K H a [.str "flat", .str "tied", .str "shared"]
section
variable {P : Program} {w : World} {K : PySem.W.Frag} {mg : Str → Option Value} {base : Heap}
theorem fn_never {f : Addr} {d : FuncData} {ps : List Str} (k : Nat) : FnOk P w K mg base CX0 k f d ps (fun _ _ _ _ => False) := ⟨fun _ _ _ _ h => h.elim, fun _ _ _ _ _ _ _ _ _ _ _ _ _ h => h.elim⟩
end
end Env
end
section
set_option Elab.async false
set_option linter.all false
set_option maxRecDepth 100000
namespace Env
open PySem PySem.Spec PyProof.Rows L2
/-! ### deep recursion: one of the interpreter's depth a level -/
structure Rm (k : Nat) (A : Around) : Prop where
  hd : A.handled = none
  dp : A.depth + k + 100 < recursionLimit
  un : A.units + 4 * k + 700 < cLine
theorem Rm.mono {j k : Nat} {A : Around} (r : Rm k A) (h : j ≤ k) : Rm j A := ⟨r.hd, by have := r.dp; omega, by have := r.un; omega⟩
theorem Rm.deep {k : Nat} {A : Around} (r : Rm (k + 1) A) (env : PySem.Env) : Rm k (A.deeper env) :=
  ⟨r.hd, by have := r.dp; show A.depth + 1 + k + 100 < _; omega, by have := r.un; show A.units + 3 + 4 * k + 700 < _; omega⟩
theorem Rm.room {k : Nat} {A : Around} (r : Rm k A) : Room 30 A := ⟨r.hd, by have := r.dp; omega, by have := r.un; omega⟩
theorem Rm.of {k j : Nat} {A : Around} (r : Room j A) (h1 : k + 95 ≤ 3 * j) (h2 : 4 * k + 500 ≤ 16 * j) : Rm k A := ⟨r.hd, by have := r.dp; omega, by have := r.un; omega⟩
/-- what a def promises at such a level -/
structure FnD (P : Program) (w : World) (K : PySem.W.Frag) (mg : Str → Option Value) (base : Heap) (k : Nat) (f : Addr) (fd : FuncData) (ps : List Str) (sp : Sp) : Prop where
  len : ∀ vs H Q E, sp vs H Q E → vs.length = ps.length
  run : ∀ (A : Around) (outer : List PySem.Env) (s : Shared) (H : Hp) (args : Args) (us : List Value) (vs : List V) (Q : VK) (E : XK), Rm k A → Env0 P w K mg base A outer s H → BindsTo s fd args (ps.zip us) → Vals vs us → sp vs H Q E →
    codeAny (model P w) A (.call (.ref f) args) (CR CX0 outer P w H s Q E) s
section
variable {P : Program} {w : World} {K : PySem.W.Frag} {mg : Str → Option Value} {base : Heap} {f : Addr} {fd : FuncData} {ps : List Str} {sp : Sp}
theorem FnD.imp {k : Nat} {sp' : Sp} (F : FnD P w K mg base k f fd ps sp) (h : ∀ vs H Q E, sp' vs H Q E → sp vs H Q E) : FnD P w K mg base k f fd ps sp' :=
  ⟨fun vs H Q E q => F.len vs H Q E (h _ _ _ _ q), fun A o s H args us vs Q E r e b v q => F.run A o s H args us vs Q E r e b v (h _ _ _ _ q)⟩
theorem FnD.mono {j k : Nat} (F : FnD P w K mg base j f fd ps sp) (h : j ≤ k) : FnD P w K mg base k f fd ps sp := ⟨F.len, fun A o s H args us vs Q E r => F.run A o s H args us vs Q E (r.mono h)⟩
theorem FnD.of {j k : Nat} (F : FnOk P w K mg base CX0 j f fd ps sp) (h : j ≤ 30) : FnD P w K mg base k f fd ps sp := ⟨F.len, fun A o s H args us vs Q E r => F.run A o s H args us vs Q E (r.room.mono h)⟩
theorem fnD_never {k : Nat} : FnD P w K mg base k f fd ps (fun _ _ _ _ => False) := ⟨fun _ _ _ _ z => z.elim, fun _ _ _ _ _ _ _ _ _ _ _ _ _ z => z.elim⟩
/-- a def by its body -/
theorem okD {x qual : Str} {st : Stmt} {N : List Str} {k : Nat} (F : Fun K x qual st f fd) (S : FnScope N ps (defScope st)) (len : ∀ vs H Q E, sp vs H Q E → vs.length = ps.length)
    (body : ∀ (cdv : Value) (A : Around) (outer : List PySem.Env) (s : Shared) (H : Hp) (vs : List V) (Q : VK) (E : XK), Rm k (A.deeper (envOfC qual (defScope st) s.heap.objs.size f cdv)) → sp vs H Q E →
      ∃ t, PSs (cxOf CX0 P w K mg base N qual (defScope st) f cdv A outer s H E).nox (defBody st) t ∧ t { nx := fun _ H' => Q .non H', rt := Q } (L2.start N vs) H) : FnD P w K mg base (k + 1) f fd ps sp := by
  obtain ⟨oc, od, kV, doc, pm, an, cdv, ct, osl, rfl, lk, hcd⟩ := F.ex
  constructor
  · exact len
  intro A outer s H args us vs Q E rm e0 binds rel hsp
  have vl := len _ _ _ _ hsp
  have keep : ∀ b o, base.get? b = some o → s.heap.get? b = some o := fun b o e => (e0.bs b o e).1
  have kin : K.In s.heap := e0.mod.kin.keeps keep
  have nolim : s.heap.NoLimit := e0.mod.nolimit.keeps keep
  have depth_ok : A.depth < recursionLimit := by have := rm.dp; omega
  have kinds : ∀ y ∈ ps.zip us, (defScope st).names.lookup y.1 = some .local ∨ ((defScope st).names.lookup y.1 = some .cell ∧ ((cellsFrom (s.heap.objs.size + 1) (defScope st).names []).lookup y.1).isSome = true) := by
    rintro ⟨y, v⟩ my
    have py := (List.of_mem_zip my).1
    exact (S.par y py).imp id fun q => ⟨q, PySem.W.cellsFrom_some _ _ _ (.inl q)⟩
  refine codeAny_call_function depth_ok (kin _ _ lk) rfl S.co S.gen rfl (PySem.W.codeRec_of kin hcd) (binds _ _ _ _ ?_)
  refine wpAny_newFunctionEnv_cells S.kind kinds ?_
  rintro env rfl s1 inCall
  refine ⟨nolim.keeps inCall.toInCall.keep, codeAny_func ?_⟩
  obtain ⟨t, ht, hq⟩ := body cdv A outer s H vs Q E (rm.deep _) hsp
  refine wpAny_mono (ht.nox.run [] s1 (L2.start N vs) H _ (inv_start S rm.hd e0 vl rel inCall) hq) ?_ fun _ _ z => z
  rintro fl s2 done
  match fl, done with
  | .ret u, ⟨v, _, H2, J, ru, q⟩ => exact ⟨v, H2, J.os, J.bare, J.base, J.hok, ru, q⟩
  | .next, ⟨_, H2, J, q⟩ => exact ⟨V.non, H2, J.os, J.bare, J.base, J.hok, rfl, q⟩
  | .brk, ⟨_, _, _, q⟩ => exact q.elim
  | .cont, ⟨_, _, _, q⟩ => exact q.elim
end
section
variable {X : Cx}
/-- a call of such a def -/
theorem pe_deep {x q : Str} {st : Stmt} {ps : List Str} {sp : Sp} {k k' : Nat} {e : Expr} {es : List Expr} {p pos : Pos} {t : TA}
    (D : Df X.K X.mg x q st ps) (G : FnD X.prog X.w X.K X.mg X.base k D.f D.d ps sp) (hr : Rm k' X.A) (hk : k ≤ k') (hg : Gl X x) (h : PA X (e :: es) t)
    (hdb : (x == ("__debug__" : Str)) = false := by decide) (he : starEach (e :: es) X.env = (false, eval e X.env) :: starEach es X.env := by rfl) (hpl : (backTo pos (starEach es X.env)).any (·.1) = false := by rfl) :
    PE X (.Call (.Name x p) (e :: es) [] pos) (tCall sp [] E0 t) := by
  constructor
  intro pins s σ H Q I hq
  refine wpAny_Call_Name_kw (ld_glob I hg D.m ?_ hdb)
  refine PySem.W.callWith_K (h₀ := X.base) I.ok.mod.kin D.F.kp (thn (h.run pos pins s σ H _ I hq) ?_) he hpl
  rintro us s1 ⟨vs, H1, I1, rel, sp1⟩
  refine ⟨I1.kIn, ?_⟩
  have vl := G.len _ _ _ _ sp1
  rw [List.append_nil] at sp1 vl
  refine wpAny_call (codeAny_mono (G.run X.A X.stack s1 H1 ⟨us, []⟩ us vs Q E0 (hr.mono hk) I1.env0 ?_ rel sp1) ?_)
  · have b := D.b s1 us I1.kIn (by rw [List.append_nil, ← rel.length]; exact vl)
    rwa [List.append_nil] at b
  · rintro r s2 done
    match r, done with
    | .error e, done => exact pass0 pins σ H1 s1 e s2 I1 done
    | .ok (.ret u), done => exact I1.after done
    | .ok .next, done => exact done.elim
    | .ok .brk, done => exact done.elim
    | .ok .cont, done => exact done.elim
end
end Env
end
section
set_option Elab.async false
set_option linter.all false
set_option maxRecDepth 100000
namespace Env
open PySem L2
def top (i : Nat) : Stmt := PySem.Challenge.pw_envways_k09_pieces_laid_out.main.body.getD i (.Pass ⟨0, 0, 0, 0⟩)
abbrev s_is_whole : Stmt := top 4
abbrev N_is_whole : List Str := ["worth", "low", "high"]
abbrev P_is_whole : List Str := ["worth", "low", "high"]
theorem sc_is_whole : FnScope N_is_whole P_is_whole (defScope s_is_whole) := ⟨rfl, rfl, rfl, by decide +kernel, rfl, by decide +kernel, by decide +kernel⟩
abbrev s_Layout___init__ : Stmt := inClass (top 6) 0
abbrev N_Layout___init__ : List Str := ["self", "site", "body", "inner", "part", "own", "used"]
abbrev P_Layout___init__ : List Str := ["self", "site", "body"]
theorem sc_Layout___init__ : FnScope N_Layout___init__ P_Layout___init__ (defScope s_Layout___init__) := ⟨rfl, rfl, rfl, by decide +kernel, rfl, by decide +kernel, by decide +kernel⟩
abbrev s_layouts_of : Stmt := top 7
abbrev N_layouts_of : List Str := ["tree", "layouts", "part"]
abbrev P_layouts_of : List Str := ["tree"]
theorem sc_layouts_of : FnScope N_layouts_of P_layouts_of (defScope s_layouts_of) := ⟨rfl, rfl, rfl, by decide +kernel, rfl, by decide +kernel, by decide +kernel⟩
abbrev s_used_from_outside : Stmt := top 8
abbrev N_used_from_outside : List Str := ["fun", "body", "part"]
abbrev P_used_from_outside : List Str := ["fun", "body"]
theorem sc_used_from_outside : FnScope N_used_from_outside P_used_from_outside (defScope s_used_from_outside) := ⟨rfl, rfl, rfl, by decide +kernel, rfl, by decide +kernel, by decide +kernel⟩
abbrev s_lets_of : Stmt := top 9
abbrev N_lets_of : List Str := ["expression", "sites", "inner"]
abbrev P_lets_of : List Str := ["expression"]
theorem sc_lets_of : FnScope N_lets_of P_lets_of (defScope s_lets_of) := ⟨rfl, rfl, rfl, by decide +kernel, rfl, by decide +kernel, by decide +kernel⟩
abbrev s_parts_of : Stmt := top 10
abbrev N_parts_of : List Str := ["expression", "parts", "inner"]
abbrev P_parts_of : List Str := ["expression"]
theorem sc_parts_of : FnScope N_parts_of P_parts_of (defScope s_parts_of) := ⟨rfl, rfl, rfl, by decide +kernel, rfl, by decide +kernel, by decide +kernel⟩
abbrev s_marked : Stmt := top 17
abbrev N_marked : List Str := ["program"]
abbrev P_marked : List Str := ["program"]
theorem sc_marked : FnScope N_marked P_marked (defScope s_marked) := ⟨rfl, rfl, rfl, by decide +kernel, rfl, by decide +kernel, by decide +kernel⟩
abbrev s_Marker___init__ : Stmt := inClass (top 18) 0
abbrev N_Marker___init__ : List Str := ["self"]
abbrev P_Marker___init__ : List Str := ["self"]
theorem sc_Marker___init__ : FnScope N_Marker___init__ P_Marker___init__ (defScope s_Marker___init__) := ⟨rfl, rfl, rfl, by decide +kernel, rfl, by decide +kernel, by decide +kernel⟩
abbrev s_Marker_mark : Stmt := inClass (top 18) 1
abbrev N_Marker_mark : List Str := ["self", "part", "around", "depth", "k", "n", "first", "second", "site", "worth", "body", "word", "inner", "each"]
abbrev P_Marker_mark : List Str := ["self", "part", "around", "depth"]
theorem sc_Marker_mark : FnScope N_Marker_mark P_Marker_mark (defScope s_Marker_mark) := ⟨rfl, rfl, rfl, by decide +kernel, rfl, by decide +kernel, by decide +kernel⟩
abbrev s_Marker_next_site : Stmt := inClass (top 18) 2
abbrev N_Marker_next_site : List Str := ["self", "site"]
abbrev P_Marker_next_site : List Str := ["self"]
theorem sc_Marker_next_site : FnScope N_Marker_next_site P_Marker_next_site (defScope s_Marker_next_site) := ⟨rfl, rfl, rfl, by decide +kernel, rfl, by decide +kernel, by decide +kernel⟩
abbrev s_need_form : Stmt := top 19
abbrev N_need_form : List Str := ["part", "word", "form", "kind", "worth"]
abbrev P_need_form : List Str := ["part"]
theorem sc_need_form : FnScope N_need_form P_need_form (defScope s_need_form) := ⟨rfl, rfl, rfl, by decide +kernel, rfl, by decide +kernel, by decide +kernel⟩
abbrev s_pieces : Stmt := top 21
abbrev N_pieces : List Str := ["program", "layouts", "layout"]
abbrev P_pieces : List Str := ["program"]
theorem sc_pieces : FnScope N_pieces P_pieces (defScope s_pieces) := ⟨rfl, rfl, rfl, by decide +kernel, rfl, by decide +kernel, by decide +kernel⟩
abbrev s_cut : Stmt := top 22
abbrev N_cut : List Str := ["part", "layout", "layouts", "n", "site", "first", "second", "used", "word", "inner", "each"]
abbrev P_cut : List Str := ["part", "layout", "layouts"]
theorem sc_cut : FnScope N_cut P_cut (defScope s_cut) := ⟨rfl, rfl, rfl, by decide +kernel, rfl, by decide +kernel, by decide +kernel⟩
abbrev s_source_of : Stmt := top 23
abbrev N_source_of : List Str := ["site", "layout"]
abbrev P_source_of : List Str := ["site", "layout"]
theorem sc_source_of : FnScope N_source_of P_source_of (defScope s_source_of) := ⟨rfl, rfl, rfl, by decide +kernel, rfl, by decide +kernel, by decide +kernel⟩
abbrev s_l_taken : Stmt := top 25
abbrev N_l_taken : List Str := ["_law_row", "_law_many", "_law_found", "_law_cell"]
abbrev P_l_taken : List Str := ["_law_row", "_law_many"]
theorem sc_l_taken : FnScope N_l_taken P_l_taken (defScope s_l_taken) := ⟨rfl, rfl, rfl, by decide +kernel, rfl, by decide +kernel, by decide +kernel⟩
abbrev s_l_alike : Stmt := top 26
abbrev N_l_alike : List Str := ["_law_found", "_law_due", "_law_k"]
abbrev P_l_alike : List Str := ["_law_found", "_law_due"]
theorem sc_l_alike : FnScope N_l_alike P_l_alike (defScope s_l_alike) := ⟨rfl, rfl, rfl, by decide +kernel, rfl, by decide +kernel, by decide +kernel⟩
abbrev s_l_names : Stmt := top 27
abbrev N_l_names : List Str := ["_law_scope", "_law_want", "_law_name"]
abbrev P_l_names : List Str := ["_law_scope", "_law_want"]
theorem sc_l_names : FnScope N_l_names P_l_names (defScope s_l_names) := ⟨rfl, rfl, rfl, by decide +kernel, rfl, by decide +kernel, by decide +kernel⟩
abbrev s_l_bound : Stmt := top 28
abbrev N_l_bound : List Str := ["_law_scope", "_law_name", "_law_sort", "_law_found"]
abbrev P_l_bound : List Str := ["_law_scope", "_law_name", "_law_sort"]
theorem sc_l_bound : FnScope N_l_bound P_l_bound (defScope s_l_bound) := ⟨rfl, rfl, rfl, by decide +kernel, rfl, by decide +kernel, by decide +kernel⟩
abbrev s_l_leaf : Stmt := top 29
abbrev N_l_leaf : List Str := ["_law_row", "_law_scope", "_law_want", "_law_some", "_law_name", "_law_inner", "_law_numbers", "_law_body"]
abbrev P_l_leaf : List Str := ["_law_row", "_law_scope", "_law_want"]
theorem sc_l_leaf : FnScope N_l_leaf P_l_leaf (defScope s_l_leaf) := ⟨rfl, rfl, rfl, by decide +kernel, rfl, by decide +kernel, by decide +kernel⟩
abbrev s_l_e : Stmt := top 30
abbrev N_l_e : List Str := ["_law_row", "_law_scope", "_law_want", "_law_deep", "_law_box", "_law_way", "_law_sort", "_law_name", "_law_first"]
abbrev P_l_e : List Str := ["_law_row", "_law_scope", "_law_want", "_law_deep", "_law_box"]
theorem sc_l_e : FnScope N_l_e P_l_e (defScope s_l_e) := ⟨rfl, rfl, rfl, by decide +kernel, rfl, by decide +kernel, by decide +kernel⟩
abbrev s_l_size : Stmt := top 31
abbrev N_l_size : List Str := ["_law_e_here", "_law_part"]
abbrev P_l_size : List Str := ["_law_e_here"]
theorem sc_l_size : FnScope N_l_size P_l_size (defScope s_l_size) := ⟨rfl, rfl, rfl, by decide +kernel, rfl, by decide +kernel, by decide +kernel⟩
abbrev s_l_small : Stmt := top 32
abbrev N_l_small : List Str := ["_law_row", "_law_names_here", "_law_one"]
abbrev P_l_small : List Str := ["_law_row", "_law_names_here"]
theorem sc_l_small : FnScope N_l_small P_l_small (defScope s_l_small) := ⟨rfl, rfl, rfl, by decide +kernel, rfl, by decide +kernel, by decide +kernel⟩
abbrev s_l_makers : Stmt := top 33
abbrev N_l_makers : List Str := ["_law_row", "_law_far_here", "_law_a", "_law_b", "_law_c", "_law_make", "_law_one", "_law_two", "_law_x", "_law_k", "_law_body", "_law_maker", "_law_some", "_law_calls", "_law_last"]
abbrev P_l_makers : List Str := ["_law_row"]
theorem sc_l_makers : FnScope N_l_makers P_l_makers (defScope s_l_makers) := ⟨rfl, rfl, rfl, by decide +kernel, rfl, by decide +kernel, by decide +kernel⟩
abbrev s_l_side : Stmt := top 34
abbrev N_l_side : List Str := ["_law_row", "_law_many", "_law_some", "_law_k"]
abbrev P_l_side : List Str := ["_law_row", "_law_many"]
theorem sc_l_side : FnScope N_l_side P_l_side (defScope s_l_side) := ⟨rfl, rfl, rfl, by decide +kernel, rfl, by decide +kernel, by decide +kernel⟩
abbrev s_l_broad : Stmt := top 35
abbrev N_l_broad : List Str := ["_law_row", "_law_inner", "_law_maker", "_law_made"]
abbrev P_l_broad : List Str := ["_law_row"]
theorem sc_l_broad : FnScope N_l_broad P_l_broad (defScope s_l_broad) := ⟨rfl, rfl, rfl, by decide +kernel, rfl, by decide +kernel, by decide +kernel⟩
abbrev s_l_far : Stmt := top 36
abbrev N_l_far : List Str := ["_law_row", "_law_less", "_law_faults", "_law_last", "_law_body", "_law_first"]
abbrev P_l_far : List Str := ["_law_row"]
theorem sc_l_far : FnScope N_l_far P_l_far (defScope s_l_far) := ⟨rfl, rfl, rfl, by decide +kernel, rfl, by decide +kernel, by decide +kernel⟩
abbrev s_l_program : Stmt := top 37
abbrev N_l_program : List Str := ["_law_row", "_law_most", "_law_want", "_law_way", "_law_program_here", "_law_itself", "_law_second"]
abbrev P_l_program : List Str := ["_law_row", "_law_most"]
theorem sc_l_program : FnScope N_l_program P_l_program (defScope s_l_program) := ⟨rfl, rfl, rfl, by decide +kernel, rfl, by decide +kernel, by decide +kernel⟩
abbrev s_l_parts : Stmt := top 38
abbrev N_l_parts : List Str := ["_law_e_here", "_law_part"]
abbrev P_l_parts : List Str := ["_law_e_here"]
theorem sc_l_parts : FnScope N_l_parts P_l_parts (defScope s_l_parts) := ⟨rfl, rfl, rfl, by decide +kernel, rfl, by decide +kernel, by decide +kernel⟩
abbrev s_l_count : Stmt := top 39
abbrev N_l_count : List Str := ["_law_e_here", "_law_part"]
abbrev P_l_count : List Str := ["_law_e_here"]
theorem sc_l_count : FnScope N_l_count P_l_count (defScope s_l_count) := ⟨rfl, rfl, rfl, by decide +kernel, rfl, by decide +kernel, by decide +kernel⟩
abbrev s_l_marked : Stmt := top 40
abbrev N_l_marked : List Str := ["_law_e_here", "_law_number", "_law_here", "_law_at", "_law_found", "_law_part"]
abbrev P_l_marked : List Str := ["_law_e_here", "_law_number"]
theorem sc_l_marked : FnScope N_l_marked P_l_marked (defScope s_l_marked) := ⟨rfl, rfl, rfl, by decide +kernel, rfl, by decide +kernel, by decide +kernel⟩
abbrev s_l_free : Stmt := top 41
abbrev N_l_free : List Str := ["_law_e_here", "_law_scope", "_law_found", "_law_part"]
abbrev P_l_free : List Str := ["_law_e_here", "_law_scope"]
theorem sc_l_free : FnScope N_l_free P_l_free (defScope s_l_free) := ⟨rfl, rfl, rfl, by decide +kernel, rfl, by decide +kernel, by decide +kernel⟩
abbrev s_l_uses : Stmt := top 42
abbrev N_l_uses : List Str := ["_law_e_here", "_law_scope", "_law_found", "_law_parts_here", "_law_part", "_law_inner"]
abbrev P_l_uses : List Str := ["_law_e_here", "_law_scope"]
theorem sc_l_uses : FnScope N_l_uses P_l_uses (defScope s_l_uses) := ⟨rfl, rfl, rfl, by decide +kernel, rfl, by decide +kernel, by decide +kernel⟩
abbrev s_l_owners : Stmt := top 43
abbrev N_l_owners : List Str := ["_law_e_here", "_law_owner", "_law_found", "_law_part"]
abbrev P_l_owners : List Str := ["_law_e_here", "_law_owner"]
theorem sc_l_owners : FnScope N_l_owners P_l_owners (defScope s_l_owners) := ⟨rfl, rfl, rfl, by decide +kernel, rfl, by decide +kernel, by decide +kernel⟩
abbrev s_l_source : Stmt := top 44
abbrev N_l_source : List Str := ["_law_owners_here", "_law_told", "_law_owner", "_law_site"]
abbrev P_l_source : List Str := ["_law_owners_here", "_law_told", "_law_owner", "_law_site"]
theorem sc_l_source : FnScope N_l_source P_l_source (defScope s_l_source) := ⟨rfl, rfl, rfl, by decide +kernel, rfl, by decide +kernel, by decide +kernel⟩
abbrev s_l_cut : Stmt := top 45
abbrev N_l_cut : List Str := ["_law_e_here", "_law_scope", "_law_owner", "_law_owners_here", "_law_told", "_law_site", "_law_first", "_law_part"]
abbrev P_l_cut : List Str := ["_law_e_here", "_law_scope", "_law_owner", "_law_owners_here", "_law_told"]
theorem sc_l_cut : FnScope N_l_cut P_l_cut (defScope s_l_cut) := ⟨rfl, rfl, rfl, by decide +kernel, rfl, by decide +kernel, by decide +kernel⟩
abbrev s_l_funs : Stmt := top 46
abbrev N_l_funs : List Str := ["_law_e_here", "_law_scope", "_law_found", "_law_k", "_law_bound_here"]
abbrev P_l_funs : List Str := ["_law_e_here", "_law_scope"]
theorem sc_l_funs : FnScope N_l_funs P_l_funs (defScope s_l_funs) := ⟨rfl, rfl, rfl, by decide +kernel, rfl, by decide +kernel, by decide +kernel⟩
abbrev s_law : Stmt := top 47
abbrev N_law : List Str := ["_law_script", "_law_row", "_law_turn", "_law_program_here", "_law_tree", "_law_owners_here", "_law_told", "_law_due", "_law_fun", "_law_scope", "_law_body", "_law_again", "_law_found"]
abbrev P_law : List Str := ["_law_script"]
theorem sc_law : FnScope N_law P_law (defScope s_law) := ⟨rfl, rfl, rfl, by decide +kernel, rfl, by decide +kernel, by decide +kernel⟩
structure Bi (mg : Str → Option Value) : Prop where
  b_len : mg "len" = none
  b_int : mg "int" = none
  b_sum : mg "sum" = none
  b_sorted : mg "sorted" = none
  b_isinstance : mg "isinstance" = none
  b_dict : mg "dict" = none
  b_tuple : mg "tuple" = none
  b_list : mg "list" = none
  b_set : mg "set" = none
  b_range : mg "range" = none
  b_str : mg "str" = none
  b_bool : mg "bool" = none
  b_zip : mg "zip" = none
  b_any : mg "any" = none
  b_max : mg "max" = none
  b_min : mg "min" = none
  b_enumerate : mg "enumerate" = none
  b_super : mg "super" = none
structure Tx (K : PySem.W.Frag) (mg : Str → Option Value) where
  B : Bi mg
  l_taken : Df K mg "_law_taken" "_law_taken" s_l_taken P_l_taken
  l_alike : Df K mg "_law_alike" "_law_alike" s_l_alike P_l_alike
  l_names : Df K mg "_law_names" "_law_names" s_l_names P_l_names
  l_bound : Df K mg "_law_bound" "_law_bound" s_l_bound P_l_bound
  l_leaf : Df K mg "_law_leaf" "_law_leaf" s_l_leaf P_l_leaf
  l_e : Df K mg "_law_e" "_law_e" s_l_e P_l_e
  l_size : Df K mg "_law_size" "_law_size" s_l_size P_l_size
  l_small : Df K mg "_law_small" "_law_small" s_l_small P_l_small
  l_makers : Df K mg "_law_makers" "_law_makers" s_l_makers P_l_makers
  l_side : Df K mg "_law_side" "_law_side" s_l_side P_l_side
  l_broad : Df K mg "_law_broad" "_law_broad" s_l_broad P_l_broad
  l_far : Df K mg "_law_far" "_law_far" s_l_far P_l_far
  l_program : Df K mg "_law_program" "_law_program" s_l_program P_l_program
  l_parts : Df K mg "_law_parts" "_law_parts" s_l_parts P_l_parts
  l_count : Df K mg "_law_count" "_law_count" s_l_count P_l_count
  l_marked : Df K mg "_law_marked" "_law_marked" s_l_marked P_l_marked
  l_free : Df K mg "_law_free" "_law_free" s_l_free P_l_free
  l_uses : Df K mg "_law_uses" "_law_uses" s_l_uses P_l_uses
  l_owners : Df K mg "_law_owners" "_law_owners" s_l_owners P_l_owners
  l_source : Df K mg "_law_source" "_law_source" s_l_source P_l_source
  l_cut : Df K mg "_law_cut" "_law_cut" s_l_cut P_l_cut
  l_funs : Df K mg "_law_funs" "_law_funs" s_l_funs P_l_funs
structure Tp (K : PySem.W.Frag) (w : World) (mg : Str → Option Value) where
  B : Bi mg
  forms : Fm K w mg
  t_HIGHEST_NUMBER : Tok
  k_HIGHEST_NUMBER : mg "HIGHEST_NUMBER" = some (.int 999 t_HIGHEST_NUMBER)
  t_HIGHEST_NAME : Tok
  k_HIGHEST_NAME : mg "HIGHEST_NAME" = some (.int 9 t_HIGHEST_NAME)
  t_MOST_EXPRESSIONS : Tok
  k_MOST_EXPRESSIONS : mg "MOST_EXPRESSIONS" = some (.int 60 t_MOST_EXPRESSIONS)
  t_MOST_AROUND : Tok
  k_MOST_AROUND : mg "MOST_AROUND" = some (.int 7 t_MOST_AROUND)
  is_whole : Df K mg "is_whole" "is_whole" s_is_whole P_is_whole
  layouts_of : Df K mg "layouts_of" "layouts_of" s_layouts_of P_layouts_of
  used_from_outside : Df K mg "used_from_outside" "used_from_outside" s_used_from_outside P_used_from_outside
  lets_of : Df K mg "lets_of" "lets_of" s_lets_of P_lets_of
  parts_of : Df K mg "parts_of" "parts_of" s_parts_of P_parts_of
  marked : Df K mg "marked" "marked" s_marked P_marked
  need_form : Df K mg "need_form" "need_form" s_need_form P_need_form
  pieces : Df K mg "pieces" "pieces" s_pieces P_pieces
  cut : Df K mg "cut" "cut" s_cut P_cut
  source_of : Df K mg "source_of" "source_of" s_source_of P_source_of
  C_Layout : Addr
  g_Layout : mg "Layout" = some (.ref C_Layout)
  c_Layout : Cls K C_Layout
  n_Layout_site : NoAttr K C_Layout "site"
  n_Layout_body : NoAttr K C_Layout "body"
  n_Layout_used : NoAttr K C_Layout "used"
  n_Layout_sites : NoAttr K C_Layout "sites"
  n_Layout_housed : NoAttr K C_Layout "housed"
  i_Layout : Dm K C_Layout "__init__" "Layout.__init__" s_Layout___init__ P_Layout___init__
  made_Layout : Mk K C_Layout i_Layout.f
  C_Marker : Addr
  g_Marker : mg "Marker" = some (.ref C_Marker)
  c_Marker : Cls K C_Marker
  n_Marker_expressions : NoAttr K C_Marker "expressions"
  n_Marker_sites : NoAttr K C_Marker "sites"
  i_Marker : Dm K C_Marker "__init__" "Marker.__init__" s_Marker___init__ P_Marker___init__
  made_Marker : Mk K C_Marker i_Marker.f
  m_Marker_mark : Dm K C_Marker "mark" "Marker.mark" s_Marker_mark P_Marker_mark
  m_Marker_next_site : Dm K C_Marker "next_site" "Marker.next_site" s_Marker_next_site P_Marker_next_site
end Env
end
section
set_option Elab.async false
set_option linter.all false
set_option maxRecDepth 100000
set_option maxHeartbeats 4000000
namespace Env
open PySem L2
local macro_rules | `(tactic| walk_at "side") => `(tactic| first
  | assumption
  | ((try dsimp only); omega)
  | decide
  | exact ⟨by omega, by omega⟩
  | exact .inr ⟨by decide, by decide⟩
  | exact .inl ⟨by omega, by omega⟩)
local macro_rules | `(tactic| walk_at "rd1") => `(tactic| first
  | with_reducible refine Exists.intro _ (And.intro rfl ?_)
  | refine Exists.intro _ (And.intro rfl ?_)
  | refine ⟨_, _, rfl, rfl, ?_⟩
  | refine And.intro rfl ?_
  | refine ⟨_, _, _, _, rfl, rfl, SqL.of (by assumption), rfl, ?_⟩
  | refine ⟨_, _, _, _, rfl, rfl, SqL.of upd_same, rfl, ?_⟩
  | refine And.intro (szb rfl) ?_
  | refine And.intro (Or.inl (And.intro rfl (Exists.intro _ (SqL.of (by assumption))))) ?_
  | refine Or.inl (Exists.intro _ (And.intro rfl ?_))
  | refine Or.inr (Exists.intro _ (And.intro rfl ?_))
  | refine And.intro (by walk_at "side") ?_
  | refine ⟨_, _, _, _, rfl, rfl, (by assumption), rfl, ?_⟩
  | refine ⟨_, _, _, _, rfl, rfl, upd_same, rfl, ?_⟩
  | refine ⟨_, _, rfl, .inl (SqL.of (by assumption)), ?_⟩
  | refine ⟨_, _, rfl, .inl (SqL.of upd_same), ?_⟩
  | refine ⟨_, _, rfl, .inl (by assumption), ?_⟩)
local macro_rules | `(tactic| walk_at "rd") => `(tactic| repeat walk_at "rd1")
local macro_rules | `(tactic| walk_at "ds") => `(tactic| dsimp only [tNil, tCons, tC, tNoPart, tPart, tCB, tOp, tTest, tB, tCall, List.nil_append, List.cons_append, List.append_nil])
local macro_rules | `(tactic| walk_at "tup") => `(tactic| (intro t nt))

section
variable {P : Program} {w : World} {K : PySem.W.Frag} {mg : Str → Option Value} {base : Heap}
theorem ok_l_taken (T : Tx K mg) : FnOk P w K mg base CX0 1 T.l_taken.f T.l_taken.d P_l_taken (spTaken K) := by
  refine T.l_taken.F.ok sc_l_taken (fun vs H Q E h => ?_) (fun cdv A outer s' H vs Q E hr h => ?_)
  · obtain ⟨r, s, n, rfl, _⟩ := h
    rfl
  obtain ⟨r, s, n, rfl, ⟨k, m, t, h1, h2, h3, h4, h5, h6, h7⟩, n0, n1, q⟩ := h
  refine ⟨_, (pss_cons (ps_if (pt_cmpR op_gt (pe_ix (ixL (K := K) rfl) (pv 0) pe_int (fun _ _ => rfl)) pe_int (nomark _)) (pss_cons (ps_set (i := 2) sc_l_taken.nd rfl (Or.inl rfl) (pe_op op_mod (pe_ix (ixL (K := K) rfl) (pv 0) pe_int (fun _ _ => rfl)) (pv 1)))
    (pss_cons (ps_asg (pe_op op_fdiv (pe_ix (ixL (K := K) rfl) (pv 0) pe_int (fun _ _ => rfl)) (pv 1)) (pg_sub (pv 0) pe_int set_list))
    (pss_one (ps_ret (pv 2))))) pss_nil)
    (pss_cons (ps_asg (pe_op op_add (pe_ix (ixL (K := K) rfl) (pv 0) pe_int (fun _ _ => rfl)) pe_int) (pg_sub (pv 0) pe_int set_list))
    (pss_cons (ps_if (pt_cmpR op_gt (pe_ix (ixL (K := K) rfl) (pv 0) pe_int (fun _ _ => rfl)) (pe_callB (id := "len") (lenS (K := K) rfl) (by rfl) T.B.b_len (by decide +kernel) (pa_cons (pe_ix (ixL (K := K) rfl) (pv 0) pe_int (fun _ _ => rfl)) pa_nil)) (nomark _)) (pss_cons (ps_asg (pe_op op_mod (pe_op op_add (pe_op op_mul (pe_ix (ixL (K := K) rfl) (pv 0) pe_int (fun _ _ => rfl)) pe_int) pe_int) pe_int) (pg_sub (pv 0) pe_int set_list))
    (pss_one (ps_ret (pe_op op_mod (pe_op op_fdiv (pe_ix (ixL (K := K) rfl) (pv 0) pe_int (fun _ _ => rfl)) pe_int) (pv 1))))) pss_nil)
    (pss_cons (ps_set (i := 3) sc_l_taken.nd rfl (Or.inl rfl) (pe_ix (ixL (K := K) rfl) (pe_ix (ixL (K := K) rfl) (pv 0) pe_int (fun _ _ => rfl)) (pe_op op_sub (pe_ix (ixL (K := K) rfl) (pv 0) pe_int (fun _ _ => rfl)) pe_int) (fun _ _ => rfl)))
    (pss_cons (ps_asg (pe_op op_mod (pe_op op_add (pe_op op_add (pe_op op_mul (pe_ix (ixL (K := K) rfl) (pv 0) pe_int (fun _ _ => rfl)) pe_int) (pv 3)) pe_int) pe_int) (pg_sub (pv 0) pe_int set_list))
    (pss_cons (ps_if (pt_cmpR op_ge (pv 3) (pe_op op_pow pe_int pe_int) (nomark _)) (pss_one (ps_asg (pe_op op_fdiv (pv 3) (pv 1)) (pg_sub (pv 0) pe_int set_list))) pss_nil)
    (pss_one (ps_ret (pe_op op_mod (pv 3) (pv 1)))))))))), ?_⟩
  have hm : r ∈ [r] := List.mem_singleton.mpr rfl
  have hcd : CDiv t n := ⟨n0, n1⟩
  walk_at "rd"
  refine ite2 (fun c => ?_) (fun c => ?_)
  · have c0 : 0 < t := of_decide_eq_true c
    walk_at "rd"
    refine q _ _ (Int.emod_nonneg _ (by omega)) (Int.emod_lt_of_pos _ n0) ⟨k, m, _, upd_same, script_put h1 h2, h3, h4, h5, h6, Int.ediv_nonneg h7 (by omega)⟩ (Ext.put h1 hm)
  · walk_at "rd"
    have c0 : t = 0 := by
      have : ¬ 0 < t := fun z => c (decide_eq_true z)
      omega
    refine ⟨_, _, rfl, .inl (script_put h1 h2), ?_⟩
    walk_at "rd"
    refine ite2 (fun d => ?_) (fun d => ?_)
    · walk_at "rd"
      exact q _ _ (Int.emod_nonneg _ (by omega)) (Int.emod_lt_of_pos _ n0) ⟨k + 1, _, t, upd_same, script_put upd_same (script_put h1 h2), h3, by omega, Int.emod_nonneg _ (by decide), Int.emod_lt_of_pos _ (by decide), h7⟩ ((Ext.put h1 hm).trans (Ext.put upd_same hm))
    · have d0 : ¬ ((s.ns.map V.int).length : Int) < k + 1 := fun z => d (decide_eq_true z)
      rw [List.length_map] at d0
      have ek : (k + 1 - 1 : Int) = ((k.toNat : Nat) : Int) := by omega
      have hk : k.toNat < s.ns.length := by omega
      have hat : atI (s.ns.map V.int) (k + 1 - 1) = some (.int s.ns[k.toNat]) := by
        rw [ek]
        exact atI_nat (by rw [List.getElem?_map, List.getElem?_eq_getElem hk]; rfl)
      walk_at "rd"
      refine ⟨_, _, _, _, rfl, rfl, script_put h1 h2, hat, ?_⟩
      have b2 : 0 ≤ (m * 48271 + s.ns[k.toNat] + 11) % 2147483647 := Int.emod_nonneg _ (by decide)
      have b3 : (m * 48271 + s.ns[k.toNat] + 11) % 2147483647 < 2147483647 := Int.emod_lt_of_pos _ (by decide)
      walk_at "rd"
      have e18 : ((10 : Int) ^ (18 : Int).toNat) = 1000000000000000000 := by decide
      refine ite2 (fun g => ?_) (fun g => ?_)
      · have g0 : (0 : Int) ≤ s.ns[k.toNat] := by
          have z : (10 : Int) ^ (18 : Int).toNat ≤ s.ns[k.toNat] := of_decide_eq_true g
          rw [e18] at z
          omega
        have hcd2 : CDiv s.ns[k.toNat] n := ⟨n0, n1⟩
        walk_at "rd"
        exact q _ _ (Int.emod_nonneg _ (by omega)) (Int.emod_lt_of_pos _ n0) ⟨k + 1, _, _, upd_same, script_put upd_same (script_put upd_same (script_put h1 h2)), h3, by omega, b2, b3, Int.ediv_nonneg g0 (by omega)⟩ (((Ext.put h1 hm).trans (Ext.put upd_same hm)).trans (Ext.put upd_same hm))
      · walk_at "rd"
        exact q _ _ (Int.emod_nonneg _ (by omega)) (Int.emod_lt_of_pos _ n0) ⟨k + 1, _, t, upd_same, script_put upd_same (script_put h1 h2), h3, by omega, b2, b3, h7⟩ ((Ext.put h1 hm).trans (Ext.put upd_same hm))
end
end Env
end
section
set_option Elab.async false
set_option linter.all false
set_option maxRecDepth 100000
set_option maxHeartbeats 4000000
namespace Env
open PySem L2
local macro_rules | `(tactic| walk_at "side") => `(tactic| first
  | assumption
  | ((try dsimp only); omega)
  | decide
  | exact ⟨by omega, by omega⟩
  | exact .inr ⟨by decide, by decide⟩
  | exact .inl ⟨by omega, by omega⟩)
local macro_rules | `(tactic| walk_at "rd1") => `(tactic| first
  | with_reducible refine Exists.intro _ (And.intro rfl ?_)
  | refine Exists.intro _ (And.intro rfl ?_)
  | refine ⟨_, _, rfl, rfl, ?_⟩
  | refine And.intro rfl ?_
  | refine ⟨_, _, _, _, rfl, rfl, SqL.of (by assumption), rfl, ?_⟩
  | refine ⟨_, _, _, _, rfl, rfl, SqL.of upd_same, rfl, ?_⟩
  | refine And.intro (szb rfl) ?_
  | refine And.intro (Or.inl (And.intro rfl (Exists.intro _ (SqL.of (by assumption))))) ?_
  | refine Or.inl (Exists.intro _ (And.intro rfl ?_))
  | refine Or.inr (Exists.intro _ (And.intro rfl ?_))
  | refine And.intro (by walk_at "side") ?_
  | refine ⟨_, _, _, _, rfl, rfl, (by assumption), rfl, ?_⟩
  | refine ⟨_, _, _, _, rfl, rfl, upd_same, rfl, ?_⟩
  | refine ⟨_, _, rfl, .inl (SqL.of (by assumption)), ?_⟩
  | refine ⟨_, _, rfl, .inl (SqL.of upd_same), ?_⟩
  | refine ⟨_, _, rfl, .inl (by assumption), ?_⟩)
local macro_rules | `(tactic| walk_at "rd") => `(tactic| repeat walk_at "rd1")
local macro_rules | `(tactic| walk_at "ds") => `(tactic| dsimp only [tNil, tCons, tC, tNoPart, tPart, tCB, tOp, tTest, tB, tCall, List.nil_append, List.cons_append, List.append_nil])
local macro_rules | `(tactic| walk_at "tup") => `(tactic| (intro t nt))

section
variable {P : Program} {w : World} {K : PySem.W.Frag} {mg : Str → Option Value} {base : Heap}
theorem ok_l_names (T : Tx K mg) : FnOk P w K mg base CX0 1 T.l_names.f T.l_names.d P_l_names spNames := by
  refine T.l_names.F.ok sc_l_names (fun vs H Q E h => ?_) (fun cdv A outer s H vs Q E hr h => ?_)
  · obtain ⟨a, u, f, rfl, _⟩ := h
    rfl
  obtain ⟨a, u, f, rfl, hf, hl, q⟩ := h
  refine ⟨_, (pss_one (ps_ret (pe_lc (own := [("_law_name", 2)]) (g := gName 2) (by rfl) sc_l_names.nd (piL (K := K) rfl (pe_callB (id := "sorted") (call_sortedDI rfl) (by rfl) T.B.b_sorted (by decide +kernel) (pa_cons (pv 0) pa_nil))) (blkOk_by (N := N_l_names) (sc := defScope s_l_names) (by decide +kernel)) (fun _ _ _ _ _ => (pg_name (i := 2) sc_l_names.nd rfl (Or.inl rfl))) (fun _ _ _ _ _ => pts_one (pt_cmpR op_eq (pe_dget (hu_of hr) (pv 0) (pv 2) (fun _ _ => rfl)) (pv 1) (nomark _))) (fun _ _ _ _ _ => (pv 2))))), ?_⟩
  walk_at "rd"
  refine ⟨a, _, f.map (·.1), rfl, .inl hf, by rw [List.map_map, List.map_map]; rfl, by rw [List.length_map]; exact hl, fun ys L hys _ nL => ?_⟩
  have yl : ys.length < 64 := by rw [hys.length_eq, List.length_map]; exact hl
  refine ⟨L, rfl, ⟨_, SqL.of upd_same⟩, fun D nD => ?_⟩
  have x1 : Ext [] H (upd H L (.lst (ys.map V.int))) := Ext.new nL
  have nDL : D ≠ L := fun z => by rw [z, upd_same] at nD; cases nD
  have nD0 : H D = none := by rw [upd_ne nDL] at nD; exact nD
  refine lc_list (K := K) (a := L) (xs := ys.map V.int) (fun i H' => ∃ ks : List Int, Ext [] H H' ∧ H' L = some (.lst (ys.map V.int)) ∧ H' D = some (.lst (ks.map V.int)) ∧ ks.length ≤ i ∧ ∀ k ∈ ks, lk f k = some u)
    ⟨[], x1.mut nD0, by rw [upd_ne nDL.symm, upd_same], upd_same, Nat.le_refl _, fun _ z => nomatch z⟩ (fun i H' _ ⟨_, _, h, _⟩ => SqL.of h) ?_ ?_
  · rintro i x H' hi ⟨ks, g1, g2, g3, g4, g5⟩
    have hi63 : i < ys.length := by
      have z := (List.getElem?_eq_some_iff.mp hi).1
      rwa [List.length_map] at z
    obtain ⟨y, rfl⟩ : ∃ y, x = V.int y := by
      rw [List.getElem?_map] at hi
      cases e : ys[i]? with
      | none => rw [e] at hi; cases hi
      | some y => rw [e] at hi; exact ⟨y, (Option.some.inj hi).symm⟩
    have my : y ∈ f.map (·.1) := by
      rw [← hys.mem_iff]
      rw [List.getElem?_map] at hi
      cases e : ys[i]? with
      | none => rw [e] at hi; cases hi
      | some z =>
        rw [e] at hi
        cases hi
        exact List.mem_of_getElem? e
    obtain ⟨v, hv⟩ : ∃ v, lk f y = some v := by
      obtain ⟨p, hp, e⟩ := List.mem_map.mp my
      unfold lk
      cases q : f.find? fun p => decide (p.1 = y) with
      | none =>
        have := List.find?_eq_none.mp q p hp
        simp [e] at this
      | some p => exact ⟨p.2, rfl⟩
    refine ⟨rfl, ?_⟩
    walk_at "rd"
    have hg := DGet.k (k := Sum.inl y) (g1.dk hf)
    rw [lk_valV, hv] at hg
    refine ⟨a, .int v, rfl, hg, ?_⟩
    walk_at "rd"
    refine ite2 (fun c => ?_) (fun c => ?_)
    · have c0 : v = u := by
        have := of_decide_eq_true c
        exact V.int.inj this
      walk_at "rd"
      refine ⟨_, g3, by rw [List.length_map]; exact small1000 (by omega), ks ++ [y], g1.mut nD0, by rw [upd_ne nDL.symm]; exact g2, by rw [upd_same, List.map_append]; rfl, by rw [List.length_append]; exact Nat.succ_le_succ g4, fun k hk => ?_⟩
      rcases List.mem_append.mp hk with z | z
      · exact g5 k z
      · rw [List.mem_singleton.mp z, hv, c0]
    · exact ⟨ks, g1, g2, g3, Nat.le_succ_of_le g4, g5⟩
  · rintro H' ⟨ks, g1, g2, g3, g4, g5⟩
    rw [List.length_map] at g4
    exact q D H' ks g1 nD0 g3 (by omega) g5
theorem ok_l_boundG (T : Tx K mg) : FnOk P w K mg base CX0 1 T.l_bound.f T.l_bound.d P_l_bound spBoundG := by
  refine T.l_bound.F.ok sc_l_bound (fun vs H Q E h => ?_) (fun cdv A outer s H vs Q E hr h => ?_)
  · obtain ⟨a, k, u, f, rfl, _⟩ := h
    rfl
  obtain ⟨a, k, u, f, rfl, hf, hl, q⟩ := h
  refine ⟨_, (pss_cons (ps_set (i := 3) sc_l_bound.nd rfl (Or.inl rfl) (pe_callTy (T := "dict") call_dictD (by rfl) T.B.b_dict (by decide +kernel) (pa_cons (pv 0) pa_nil)))
    (pss_cons (ps_dput (hu_of hr) (pv 3) (pv 1) (pv 2) rfl)
    (pss_one (ps_ret (pv 3))))), ?_⟩
  walk_at "rd"
  intro p np
  walk_at "rd"
  refine ⟨p, _, rfl, DPut.k (k := Sum.inl k) upd_same (small1000 (by omega)), ?_⟩
  walk_at "rd"
  exact q p _ ((Ext.new np).mut np) np upd_same
theorem ok_l_bound (T : Tx K mg) : FnOk P w K mg base CX0 1 T.l_bound.f T.l_bound.d P_l_bound spBound :=
  (ok_l_boundG T).imp fun vs H Q E ⟨a, k, u, f, e, hf, hl, q⟩ => ⟨a, k, .int u, _, e, hf, by rw [List.length_map]; exact hl, fun p H' x np hp => q p H' x np (by
    unfold ScAt
    rw [hp, pt_putK])⟩
end
end Env
end
section
set_option Elab.async false
set_option linter.all false
set_option maxRecDepth 100000
set_option maxHeartbeats 4000000
namespace Env
open PySem L2
local macro_rules | `(tactic| walk_at "side") => `(tactic| first
  | assumption
  | ((try dsimp only); omega)
  | decide
  | exact ⟨by omega, by omega⟩
  | exact .inr ⟨by decide, by decide⟩
  | exact .inl ⟨by omega, by omega⟩)
local macro_rules | `(tactic| walk_at "rd1") => `(tactic| first
  | with_reducible refine Exists.intro _ (And.intro rfl ?_)
  | refine Exists.intro _ (And.intro rfl ?_)
  | refine ⟨_, _, rfl, rfl, ?_⟩
  | refine And.intro rfl ?_
  | refine ⟨_, _, _, _, rfl, rfl, SqL.of (by assumption), rfl, ?_⟩
  | refine ⟨_, _, _, _, rfl, rfl, SqL.of upd_same, rfl, ?_⟩
  | refine And.intro (szb rfl) ?_
  | refine And.intro (Or.inl (And.intro rfl (Exists.intro _ (SqL.of (by assumption))))) ?_
  | refine Or.inl (Exists.intro _ (And.intro rfl ?_))
  | refine Or.inr (Exists.intro _ (And.intro rfl ?_))
  | refine And.intro (by walk_at "side") ?_
  | refine ⟨_, _, _, _, rfl, rfl, (by assumption), rfl, ?_⟩
  | refine ⟨_, _, _, _, rfl, rfl, upd_same, rfl, ?_⟩
  | refine ⟨_, _, rfl, .inl (SqL.of (by assumption)), ?_⟩
  | refine ⟨_, _, rfl, .inl (SqL.of upd_same), ?_⟩
  | refine ⟨_, _, rfl, .inl (by assumption), ?_⟩)
local macro_rules | `(tactic| walk_at "rd") => `(tactic| repeat walk_at "rd1")
local macro_rules | `(tactic| walk_at "ds") => `(tactic| dsimp only [tNil, tCons, tC, tNoPart, tPart, tCB, tOp, tTest, tB, tCall, List.nil_append, List.cons_append, List.append_nil])
local macro_rules | `(tactic| walk_at "tup") => `(tactic| (intro t nt))

section
variable {P : Program} {w : World} {K : PySem.W.Frag} {mg : Str → Option Value} {base : Heap}
theorem ok_l_leaf (T : Tx K mg) : FnOk P w K mg base CX0 2 T.l_leaf.f T.l_leaf.d P_l_leaf (spLeaf K) := by
  refine T.l_leaf.F.ok sc_l_leaf (fun vs H Q E h => ?_) (fun cdv A outer s H vs Q E hr h => ?_)
  · obtain ⟨r, s, a, u, f, rfl, _⟩ := h
    rfl
  obtain ⟨r, s, a, u, f, rfl, R, ⟨hf, hl, hd⟩, q⟩ := h
  refine ⟨_, (pss_cons (ps_set (i := 3) sc_l_leaf.nd rfl (Or.inl rfl) (pe_cl T.l_names (ok_l_names T) hr (by first | decide | omega) (by rfl) (pa_cons (pv 1) (pa_cons (pv 2) pa_nil))))
    (pss_cons (ps_if (PW.pt (pw_and (pt_cmpR (neDK (K := K) rfl hr.units) (pv 3) (pe_lst pa_nil) (nomark _)) (pw_and1 (pt_cmpR op_gt (pe_cl T.l_taken (ok_l_taken T) hr (by first | decide | omega) (by rfl) (pa_cons (pv 0) (pa_cons pe_int pa_nil))) pe_int (nomark _))))) (pss_one (ps_ret (pe_tup (pa_cons pe_str (pa_cons (pe_ix (ixL (K := K) rfl) (pv 3) (pe_cl T.l_taken (ok_l_taken T) hr (by first | decide | omega) (by rfl) (pa_cons (pv 0) (pa_cons (pe_callB (id := "len") (lenS (K := K) rfl) (by rfl) T.B.b_len (by decide +kernel) (pa_cons (pv 3) pa_nil)) pa_nil))) (fun _ _ => rfl)) pa_nil))))) pss_nil)
    (pss_cons (ps_set (i := 4) sc_l_leaf.nd rfl (Or.inl rfl) (pe_cl T.l_taken (ok_l_taken T) hr (by first | decide | omega) (by rfl) (pa_cons (pv 0) (pa_cons pe_int pa_nil))))
    (pss_cons (ps_set (i := 5) sc_l_leaf.nd rfl (Or.inl rfl) (pe_cl T.l_bound (ok_l_bound T) hr (by first | decide | omega) (by rfl) (pa_cons (pv 1) (pa_cons (pv 4) (pa_cons (pe_callTy (T := "int") call_int1 (by rfl) T.B.b_int (by decide +kernel) (pa_cons (pe_cmpR op_eq (pv 2) pe_int (nomark _)) pa_nil)) pa_nil)))))
    (pss_cons (ps_if (pt_cmpR op_eq (pv 2) pe_int (nomark _)) (pss_one (ps_ret (pe_tup (pa_cons pe_str (pa_cons (pe_cl T.l_taken (ok_l_taken T) hr (by first | decide | omega) (by rfl) (pa_cons (pv 0) (pa_cons (pe_ix (ixL (K := K) rfl) (pe_lst (pa_cons pe_int (pa_cons pe_int pa_nil))) (pe_cl T.l_taken (ok_l_taken T) hr (by first | decide | omega) (by rfl) (pa_cons (pv 0) (pa_cons pe_int pa_nil))) (fun _ _ => rfl)) pa_nil))) pa_nil))))) pss_nil)
    (pss_cons (ps_if (pt_cmpR op_eq (pv 2) pe_int (nomark _)) (pss_one (ps_ret (pe_tup (pa_cons pe_str (pa_cons (pv 4) (pa_cons (pe_tup (pa_cons pe_str (pa_cons (pe_cl T.l_taken (ok_l_taken T) hr (by first | decide | omega) (by rfl) (pa_cons (pv 0) (pa_cons pe_int pa_nil))) (pa_cons (pe_tup (pa_cons pe_str (pa_cons (pe_cl T.l_taken (ok_l_taken T) hr (by first | decide | omega) (by rfl) (pa_cons (pv 0) (pa_cons pe_int pa_nil))) pa_nil))) pa_nil)))) pa_nil)))))) pss_nil)
    (pss_cons (ps_set (i := 6) sc_l_leaf.nd rfl (Or.inl rfl) (pe_cl T.l_names (ok_l_names T) hr (by first | decide | omega) (by rfl) (pa_cons (pv 5) (pa_cons pe_int pa_nil))))
    (pss_cons (ps_set (i := 7) sc_l_leaf.nd rfl (Or.inl rfl) (pe_ifExp (pt_cmpR (neDK (K := K) rfl hr.units) (pv 6) (pe_lst pa_nil) (nomark _)) (pe_tup (pa_cons pe_str (pa_cons (pe_ix (ixL (K := K) rfl) (pv 6) (pe_cl T.l_taken (ok_l_taken T) hr (by first | decide | omega) (by rfl) (pa_cons (pv 0) (pa_cons (pe_callB (id := "len") (lenS (K := K) rfl) (by rfl) T.B.b_len (by decide +kernel) (pa_cons (pv 6) pa_nil)) pa_nil))) (fun _ _ => rfl)) pa_nil))) (pe_tup (pa_cons pe_str (pa_cons pe_int pa_nil)))))
    (pss_one (ps_ret (pe_tup (pa_cons pe_str (pa_cons (pv 4) (pa_cons (pe_ifExp (pt_cmpR op_eq (pv 2) pe_int (nomark _)) (pe_tup (pa_cons pe_str (pa_cons (pv 7) (pa_cons (pe_tup (pa_cons pe_str (pa_cons (pe_cl T.l_taken (ok_l_taken T) hr (by first | decide | omega) (by rfl) (pa_cons (pv 0) (pa_cons pe_int pa_nil))) pa_nil))) pa_nil)))) (pv 7)) pa_nil)))))))))))))), ?_⟩
  walk_at "rd"
  -- some = names(scope, want)
  refine ⟨a, u, f, rfl, hf, by omega, fun p H1 ks x1 np h1 hk hks => ?_⟩
  have R1 := R.ext0 x1
  have nN : ∀ k, dom f k → 0 ≤ k ∧ k ≤ 9 := hd
  have hpr : p ≠ r := lst_row_ne R1 h1
  refine share (T := ?T) (fun H2 => RowAt K r s H2 ∧ Ext [r] H H2) (fun rest => ?main) ?rest
  case main =>
    walk_at "rd"
    intro p2 np2
    have x2 : Ext [] H1 (upd H1 p2 (.lst [])) := Ext.new np2
    generalize hH : upd H1 p2 (.lst []) = H2 at x2
    refine ne_nil (ks := ks) (by rw [← hH]; exact SqL.of (by rw [upd_ne (ne_of_none h1 np2)]; exact h1)) (by rw [← hH]; exact upd_same) ?_
    clear hH
    have R2 := R1.ext0 x2
    walk_at "rd"
    refine ite2 (fun c => ?_) (fun c => ?_)
    · have hne : ks ≠ [] := cdec c
      have hl0 : 0 < (ks.length : Int) := by
        have := List.length_pos_iff.mpr hne
        omega
      walk_at "rd"
      refine ⟨r, s, 4, rfl, R2, by decide, by decide, fun z H3 z0 z1 R3 x3 => ?_⟩
      have h3 : H3 p = some (.lst (ks.map V.int)) := x3.lst (not_in_one hpr) (x2.lst (fun z => nomatch z) h1)
      walk_at "rd"
      refine ite2 (fun d => ?_) (fun d => ?_)
      · walk_at "rd"
        refine ⟨r, s, (((ks.map V.int).length : Nat) : Int), rfl, R3, by rw [List.length_map]; exact hl0, by rw [List.length_map]; omega, fun y H4 y0 y1 R4 x4 => ?_⟩
        rw [List.length_map] at y1
        obtain ⟨k, mk, hat⟩ := at_ints y0 y1
        have h4 : H4 p = some (.lst (ks.map V.int)) := x4.lst (not_in_one hpr) h3
        refine ⟨_, _, _, _, rfl, rfl, SqL.of h4, hat, ?_⟩
        walk_at "rd"
        intro t nt
        have dk : dom f k := ⟨u, hks k mk⟩
        exact q (.ref t) _ (.nam k) (R4.ext0 (Ext.new nt)) ((((x1.to.trans x2.to).trans x3).trans x4).nw nt) ⟨t, rfl, SqT.of upd_same⟩ (Nat.le_of_ble_eq_true rfl) ⟨(hd k dk).1, (hd k dk).2, dk⟩
      · exact rest H3 ⟨R3, (x1.to.trans x2.to).trans x3⟩
    · exact rest H2 ⟨R2, x1.to.trans x2.to⟩
  case rest =>
    rintro H2 ⟨R2, x2⟩
    walk_at "rd"
    refine ⟨r, s, 10, rfl, R2, by decide, by decide, fun k H3 k0 k1 R3 x3 => ?_⟩
    walk_at "rd"
    refine ⟨a, k, _, f, rfl, x3.dk (x2.dk hf), by omega, fun b H4 x4 nb hb => ?_⟩
    generalize hj : (if decide (V.int u = V.int 3) = true then (1 : Int) else 0) = j at hb
    have R4 := R3.ext0 x4
    walk_at "rd"
    refine ite2 (fun c => ?_) (fun c => ?_)
    · -- a number
      walk_at "rd"
      intro l nl
      have x5 : Ext [] H4 (upd H4 l (.lst [.int 10, .int 1000])) := Ext.new nl
      have hl5 : upd H4 l (.lst [.int 10, .int 1000]) l = some (.lst ([10, 1000].map V.int)) := upd_same
      generalize upd H4 l (.lst [.int 10, .int 1000]) = H5 at x5 hl5 ⊢
      have R5 := R4.ext0 x5
      walk_at "rd"
      refine ⟨r, s, 2, rfl, R5, by decide, by decide, fun z H6 z0 z1 R6 x6 => ?_⟩
      have hl6 : H6 l = some (.lst ([10, 1000].map V.int)) := x6.lst (not_in_one (lst_row_ne R5 hl5)) hl5
      obtain ⟨n, mn, hat⟩ := at_ints (ks := [10, 1000]) z0 z1
      refine ⟨_, _, _, _, rfl, rfl, SqL.of hl6, hat, ?_⟩
      have hn : n = 10 ∨ n = 1000 := by simpa using mn
      walk_at "rd"
      refine ⟨r, s, n, rfl, R6, by omega, by omega, fun y H7 y0 y1 R7 x7 => ?_⟩
      walk_at "rd"
      intro t nt
      exact q (.ref t) _ (.num y) (R7.ext0 (Ext.new nt)) ((((((x2.trans x3).trans x4.to).trans x5.to).trans x6).trans x7).nw nt) ⟨t, rfl, SqT.of upd_same⟩ (Nat.le_of_ble_eq_true rfl) ⟨y0, by omega⟩
    · walk_at "rd"
      refine ite2 (fun d => ?_) (fun d => ?_)
      · -- one that tells functions
        walk_at "rd"
        refine ⟨r, s, 10, rfl, R4, by decide, by decide, fun k2 H5 k20 k21 R5 x5 => ?_⟩
        walk_at "rd"
        refine ⟨r, s, 10, rfl, R5, by decide, by decide, fun n H6 n0 n1 R6 x6 => ?_⟩
        walk_at "rd"
        intro t1 nt1
        have y1 : Ext [] H6 _ := Ext.new (o := .tup [.str "num", .int n]) nt1
        walk_at "rd"
        intro t2 nt2
        have y2 := Ext.new (ms := []) (o := .tup [.str "fun", .int k2, .ref t1]) nt2
        walk_at "rd"
        intro t3 nt3
        have y3 := Ext.new (ms := []) (o := .tup [.str "fun", .int k, .ref t2]) nt3
        exact q (.ref t3) _ (.efun k (.efun k2 (.num n))) (R6.ext0 ((y1.trans y2).trans y3)) (((((((x2.trans x3).trans x4.to).trans x5).trans x6).trans y1.to).trans y2.to).trans y3.to)
          ⟨t3, _, rfl, SqT.of upd_same, t2, _, rfl, y3.seqT (SqT.of upd_same), t1, rfl, y3.seqT (y2.seqT (SqT.of upd_same))⟩ (Nat.le_of_ble_eq_true rfl) ⟨k0, by omega, k20, by omega, n0, by omega⟩
      · walk_at "rd"
        refine ⟨b, 0, pt f k j, rfl, hb, by have := pt_len f k j; omega, fun p5 H5 ks5 x5 np5 h5 hk5 hks5 => ?_⟩
        have R5 := R4.ext0 x5
        walk_at "rd"
        intro l nl
        have x6 : Ext [] H5 (upd H5 l (.lst [])) := Ext.new nl
        refine ne_nil (ks := ks5) (SqL.of (by rw [upd_ne (ne_of_none h5 nl)]; exact h5)) upd_same ?_
        generalize upd H5 l (.lst []) = H6 at x6 ⊢
        have R6 := R5.ext0 x6
        have h6 : H6 p5 = some (.lst (ks5.map V.int)) := x6.lst (fun z => nomatch z) h5
        have x06 := ((((x2.trans x3).trans x4.to).trans x5.to).trans x6.to)
        walk_at "rd"
        refine share2 (T := ?T2) (fun v H' => ∃ e, RowAt K r s H' ∧ Ext [r] H H' ∧ TE K H' v e ∧ e.hgt ≤ 1 ∧ e.ok fun j => j = k ∨ dom f j) (fun rest2 => ?main2) ?rest2
        case main2 =>
          refine ite2 (fun c5 => ?_) (fun c5 => ?_)
          · have hne : ks5 ≠ [] := cdec c5
            have hl0 : 0 < (ks5.length : Int) := by
              have := List.length_pos_iff.mpr hne
              omega
            walk_at "rd"
            refine ⟨r, s, (((ks5.map V.int).length : Nat) : Int), rfl, R6, by rw [List.length_map]; exact hl0, by rw [List.length_map]; omega, fun y H7 y0 y1 R7 x7 => ?_⟩
            rw [List.length_map] at y1
            obtain ⟨g, mg, hat⟩ := at_ints y0 y1
            have h7 : H7 p5 = some (.lst (ks5.map V.int)) := x7.lst (not_in_one (lst_row_ne R6 h6)) h6
            refine ⟨_, _, _, _, rfl, rfl, SqL.of h7, hat, ?_⟩
            walk_at "rd"
            intro t nt
            have dk : g = k ∨ dom f g := dom_pt ⟨0, hks5 g mg⟩
            have bg : 0 ≤ g ∧ g ≤ 9 := dk.elim (fun z => by omega) (hd g)
            have W7 : ∃ e, RowAt K r s (upd H7 t (.tup [.str "name", .int g])) ∧ Ext [r] H (upd H7 t (.tup [.str "name", .int g])) ∧ TE K (upd H7 t (.tup [.str "name", .int g])) (.ref t) e ∧ e.hgt ≤ 1 ∧ e.ok fun j => j = k ∨ dom f j :=
              ⟨.nam g, R7.ext0 (Ext.new nt), (x06.trans x7).nw nt, ⟨t, rfl, SqT.of upd_same⟩, Nat.le_refl _, bg.1, bg.2, dk⟩
            revert W7
            generalize V.ref t = v7
            generalize upd H7 t (.tup [.str "name", .int g]) = H8
            intro W7
            exact rest2 v7 H8 W7
          · walk_at "rd"
            intro t nt
            have W7 : ∃ e, RowAt K r s (upd H6 t (.tup [.str "num", .int 1])) ∧ Ext [r] H (upd H6 t (.tup [.str "num", .int 1])) ∧ TE K (upd H6 t (.tup [.str "num", .int 1])) (.ref t) e ∧ e.hgt ≤ 1 ∧ e.ok fun j => j = k ∨ dom f j :=
              ⟨.num 1, R6.ext0 (Ext.new nt), x06.nw nt, ⟨t, rfl, SqT.of upd_same⟩, Nat.le_refl _, by decide, by decide⟩
            revert W7
            generalize V.ref t = v7
            generalize upd H6 t (.tup [.str "num", .int 1]) = H8
            intro W7
            exact rest2 v7 H8 W7
        case rest2 =>
          rintro v H7 ⟨e, R7, x7, te, eh, eo⟩
          walk_at "rd"
          refine ite2 (fun c5 => ?_) (fun c5 => ?_)
          · walk_at "rd"
            refine ⟨r, s, 10, rfl, R7, by decide, by decide, fun y H8 y0 y1 R8 x8 => ?_⟩
            walk_at "rd"
            intro t1 nt1
            have z1 := Ext.new (ms := []) (o := .tup [.str "num", .int y]) nt1
            walk_at "rd"
            intro t2 nt2
            have z2 := Ext.new (ms := []) (o := .tup [.str "plus", v, .ref t1]) nt2
            walk_at "rd"
            intro t3 nt3
            have z3 := Ext.new (ms := []) (o := .tup [.str "fun", .int k, .ref t2]) nt3
            exact q (.ref t3) _ (.efun k (.plus e (.num y))) (R8.ext0 ((z1.trans z2).trans z3)) ((((x7.trans x8).trans z1.to).trans z2.to).trans z3.to)
              ⟨t3, _, rfl, SqT.of upd_same, t2, _, _, rfl, z3.seqT (SqT.of upd_same), TE.ext (x8.trans ((z1.to.trans z2.to).trans z3.to)) te, t1, rfl, z3.seqT (z2.seqT (SqT.of upd_same))⟩
              (by simp only [Env.E.hgt]; omega) ⟨k0, by omega, eo, y0, by omega⟩
          · walk_at "rd"
            intro t1 nt1
            have z1 := Ext.new (ms := []) (o := .tup [.str "fun", .int k, v]) nt1
            exact q (.ref t1) _ (.efun k e) (R7.ext0 z1) (x7.trans z1.to) ⟨t1, _, rfl, SqT.of upd_same, TE.ext z1 te⟩ (by simp only [Env.E.hgt]; omega) ⟨k0, by omega, eo⟩
end
end Env
end
section
set_option Elab.async false
set_option linter.all false
set_option maxRecDepth 100000
set_option maxHeartbeats 4000000
namespace Env
open PySem L2
local macro_rules | `(tactic| walk_at "side") => `(tactic| first
  | assumption
  | ((try dsimp only); omega)
  | decide
  | exact ⟨by omega, by omega⟩
  | exact .inr ⟨by decide, by decide⟩
  | exact .inl ⟨by omega, by omega⟩)
local macro_rules | `(tactic| walk_at "rd1") => `(tactic| first
  | with_reducible refine Exists.intro _ (And.intro rfl ?_)
  | refine Exists.intro _ (And.intro rfl ?_)
  | refine ⟨_, _, rfl, rfl, ?_⟩
  | refine And.intro rfl ?_
  | refine ⟨_, _, _, _, rfl, rfl, SqL.of (by assumption), rfl, ?_⟩
  | refine ⟨_, _, _, _, rfl, rfl, SqL.of upd_same, rfl, ?_⟩
  | refine And.intro (szb rfl) ?_
  | refine And.intro (Or.inl (And.intro rfl (Exists.intro _ (SqL.of (by assumption))))) ?_
  | refine Or.inl (Exists.intro _ (And.intro rfl ?_))
  | refine Or.inr (Exists.intro _ (And.intro rfl ?_))
  | refine And.intro (by walk_at "side") ?_
  | refine ⟨_, _, _, _, rfl, rfl, (by assumption), rfl, ?_⟩
  | refine ⟨_, _, _, _, rfl, rfl, upd_same, rfl, ?_⟩
  | refine ⟨_, _, rfl, .inl (SqL.of (by assumption)), ?_⟩
  | refine ⟨_, _, rfl, .inl (SqL.of upd_same), ?_⟩
  | refine ⟨_, _, rfl, .inl (by assumption), ?_⟩)
local macro_rules | `(tactic| walk_at "rd") => `(tactic| repeat walk_at "rd1")
local macro_rules | `(tactic| walk_at "ds") => `(tactic| dsimp only [tNil, tCons, tC, tNoPart, tPart, tCB, tOp, tTest, tB, tCall, List.nil_append, List.cons_append, List.append_nil])
local macro_rules | `(tactic| walk_at "tup") => `(tactic| (intro t nt))

section
variable {P : Program} {w : World} {K : PySem.W.Frag} {mg : Str → Option Value} {base : Heap}
theorem ok_l_e_step (T : Tx K mg) (n : Nat) (sp0 : Sp) (G_l_e : FnOk P w K mg base CX0 (n + 2) T.l_e.f T.l_e.d P_l_e sp0) (h0 : ∀ m, n = m + 1 → sp0 = spE K m) :
    FnOk P w K mg base CX0 (n + 3) T.l_e.f T.l_e.d P_l_e (spE K n) := by
  refine T.l_e.F.ok sc_l_e (fun vs H Q E h => ?_) (fun cdv A outer s' H vs Q X hr hsp => ?_)
  · obtain ⟨r, s, a, b, u, d, f, rfl, _⟩ := h
    rfl
  obtain ⟨r, s, a, b, u, d, f, rfl, R, S, hl, u0, u1, hd, B, q⟩ := hsp
  refine ⟨_, (pss_cons (ps_asg (pe_op op_sub (pe_ix (ixL (K := K) rfl) (pv 4) pe_int (fun _ _ => rfl)) pe_int) (pg_sub (pv 4) pe_int set_list))
    (pss_cons (ps_set (i := 5) sc_l_e.nd rfl (Or.inl rfl) (pe_cl T.l_taken (ok_l_taken T) hr (by first | decide | omega) (by rfl) (pa_cons (pv 0) (pa_cons pe_int pa_nil))))
    (pss_cons (ps_if (PW.pt (pw_or (pt_cmpR op_lt (pv 3) pe_int (nomark _)) (pw_or (pt_cmpR op_lt (pe_ix (ixL (K := K) rfl) (pv 4) pe_int (fun _ _ => rfl)) pe_int (nomark _)) (pw_or1 (pt_cmpR op_eq (pv 5) pe_int (nomark _)))))) (pss_one (ps_ret (pe_cl T.l_leaf (ok_l_leaf T) hr (by first | decide | omega) (by rfl) (pa_cons (pv 0) (pa_cons (pv 1) (pa_cons (pv 2) pa_nil)))))) pss_nil)
    (pss_cons (ps_if (pt_cmpR op_lt (pv 5) pe_int (nomark _)) (pss_cons (ps_set (i := 6) sc_l_e.nd rfl (Or.inl rfl) (pe_ix (ixL (K := K) rfl) (pe_lst (pa_cons pe_int (pa_cons pe_int (pa_cons pe_int (pa_cons pe_int (pa_cons pe_int (pa_cons pe_int pa_nil))))))) (pe_cl T.l_taken (ok_l_taken T) hr (by first | decide | omega) (by rfl) (pa_cons (pv 0) (pa_cons pe_int pa_nil))) (fun _ _ => rfl)))
    (pss_cons (ps_set (i := 7) sc_l_e.nd rfl (Or.inl rfl) (pe_cl T.l_taken (ok_l_taken T) hr (by first | decide | omega) (by rfl) (pa_cons (pv 0) (pa_cons pe_int pa_nil))))
    (pss_cons (ps_set (i := 8) sc_l_e.nd rfl (Or.inl rfl) (pe_cl T.l_e (G_l_e) hr (by first | decide | omega) (by rfl) (pa_cons (pv 0) (pa_cons (pv 1) (pa_cons (pv 6) (pa_cons (pe_op op_sub (pv 3) pe_int) (pa_cons (pv 4) pa_nil)))))))
    (pss_one (ps_ret (pe_tup (pa_cons pe_str (pa_cons (pv 7) (pa_cons (pv 8) (pa_cons (pe_cl T.l_e (G_l_e) hr (by first | decide | omega) (by rfl) (pa_cons (pv 0) (pa_cons (pe_cl T.l_bound (ok_l_bound T) hr (by first | decide | omega) (by rfl) (pa_cons (pv 1) (pa_cons (pv 7) (pa_cons (pv 6) pa_nil)))) (pa_cons (pv 2) (pa_cons (pe_op op_sub (pv 3) pe_int) (pa_cons (pv 4) pa_nil)))))) pa_nil)))))))))) pss_nil)
    (pss_cons (ps_if (pt_cmpR op_eq (pv 5) pe_int (nomark _)) (pss_cons (ps_set (i := 8) sc_l_e.nd rfl (Or.inl rfl) (pe_cl T.l_e (G_l_e) hr (by first | decide | omega) (by rfl) (pa_cons (pv 0) (pa_cons (pv 1) (pa_cons pe_int (pa_cons (pe_op op_sub (pv 3) pe_int) (pa_cons (pv 4) pa_nil)))))))
    (pss_one (ps_ret (pe_tup (pa_cons pe_str (pa_cons (pv 8) (pa_cons (pe_cl T.l_e (G_l_e) hr (by first | decide | omega) (by rfl) (pa_cons (pv 0) (pa_cons (pv 1) (pa_cons (pv 2) (pa_cons (pe_op op_sub (pv 3) pe_int) (pa_cons (pv 4) pa_nil)))))) (pa_cons (pe_cl T.l_e (G_l_e) hr (by first | decide | omega) (by rfl) (pa_cons (pv 0) (pa_cons (pv 1) (pa_cons (pv 2) (pa_cons (pe_op op_sub (pv 3) pe_int) (pa_cons (pv 4) pa_nil)))))) pa_nil)))))))) pss_nil)
    (pss_cons (ps_if (PW.pt (pw_and (pt_cmpR op_gt (pv 2) pe_int (nomark _)) (pw_and1 (pt_cmpR op_lt (pv 5) pe_int (nomark _))))) (pss_cons (ps_set (i := 7) sc_l_e.nd rfl (Or.inl rfl) (pe_cl T.l_taken (ok_l_taken T) hr (by first | decide | omega) (by rfl) (pa_cons (pv 0) (pa_cons pe_int pa_nil))))
    (pss_one (ps_ret (pe_tup (pa_cons pe_str (pa_cons (pv 7) (pa_cons (pe_cl T.l_e (G_l_e) hr (by first | decide | omega) (by rfl) (pa_cons (pv 0) (pa_cons (pe_cl T.l_bound (ok_l_bound T) hr (by first | decide | omega) (by rfl) (pa_cons (pv 1) (pa_cons (pv 7) (pa_cons (pe_callTy (T := "int") call_int1 (by rfl) T.B.b_int (by decide +kernel) (pa_cons (pe_cmpR op_eq (pv 2) pe_int (nomark _)) pa_nil)) pa_nil)))) (pa_cons (pe_callTy (T := "int") call_int1 (by rfl) T.B.b_int (by decide +kernel) (pa_cons (pe_cmpR op_eq (pv 2) pe_int (nomark _)) pa_nil)) (pa_cons (pe_op op_sub (pv 3) pe_int) (pa_cons (pv 4) pa_nil)))))) pa_nil))))))) pss_nil)
    (pss_cons (ps_if (PW.pt (pw_and (pt_cmpR op_eq (pv 2) pe_int (nomark _)) (pw_and1 (pt_cmpR op_eq (pv 5) pe_int (nomark _))))) (pss_one (ps_ret (pe_tup (pa_cons pe_str (pa_cons (pe_cl T.l_e (G_l_e) hr (by first | decide | omega) (by rfl) (pa_cons (pv 0) (pa_cons (pv 1) (pa_cons pe_int (pa_cons (pe_op op_sub (pv 3) pe_int) (pa_cons (pv 4) pa_nil)))))) (pa_cons (pe_cl T.l_e (G_l_e) hr (by first | decide | omega) (by rfl) (pa_cons (pv 0) (pa_cons (pv 1) (pa_cons pe_int (pa_cons (pe_op op_sub (pv 3) pe_int) (pa_cons (pv 4) pa_nil)))))) pa_nil)))))) pss_nil)
    (pss_cons (ps_if (pt_cmpR op_lt (pv 2) pe_int (nomark _)) (pss_cons (ps_set (i := 6) sc_l_e.nd rfl (Or.inl rfl) (pe_ix (ixL (K := K) rfl) (pe_lst (pa_cons (pe_ix (ixL (K := K) rfl) (pe_lst (pa_cons pe_int (pa_cons pe_int pa_nil))) (pe_cl T.l_taken (ok_l_taken T) hr (by first | decide | omega) (by rfl) (pa_cons (pv 0) (pa_cons pe_int pa_nil))) (fun _ _ => rfl)) (pa_cons pe_int pa_nil))) (pv 2) (fun _ _ => rfl)))
    (pss_cons (ps_set (i := 8) sc_l_e.nd rfl (Or.inl rfl) (pe_cl T.l_e (G_l_e) hr (by first | decide | omega) (by rfl) (pa_cons (pv 0) (pa_cons (pv 1) (pa_cons (pv 6) (pa_cons (pe_op op_sub (pv 3) pe_int) (pa_cons (pv 4) pa_nil)))))))
    (pss_one (ps_ret (pe_tup (pa_cons pe_str (pa_cons (pv 8) (pa_cons (pe_cl T.l_e (G_l_e) hr (by first | decide | omega) (by rfl) (pa_cons (pv 0) (pa_cons (pv 1) (pa_cons (pe_callTy (T := "int") call_int1 (by rfl) T.B.b_int (by decide +kernel) (pa_cons (pe_cmpR op_eq (pv 6) pe_int (nomark _)) pa_nil)) (pa_cons (pe_op op_sub (pv 3) pe_int) (pa_cons (pv 4) pa_nil)))))) pa_nil)))))))) pss_nil)
    (pss_one (ps_ret (pe_cl T.l_leaf (ok_l_leaf T) hr (by first | decide | omega) (by rfl) (pa_cons (pv 0) (pa_cons (pv 1) (pa_cons (pv 2) pa_nil)))))))))))))), ?_⟩
  have leafq : ∀ H2, RowAt K r s H2 → Ext [r, b] H H2 → BoxAt K r s b H2 → spLeaf K [.ref r, .ref a, .int u] H2 Q E0 := fun H2 R2 x2 B2 =>
    ⟨r, s, a, u, f, rfl, R2, S.ext x2, fun v H3 e R3 x3 te eh eo => q v H3 e R3 (x2.trans x3.one) (B2.row x3) te (by omega) eo⟩
  have hS := S
  obtain ⟨hf, hfl, hfd⟩ := hS
  obtain ⟨nbr, nbs, m, hb⟩ := id B
  walk_at "rd"
  have xb : Ext [b] H (upd H b (.lst [.int (m - 1)])) := Ext.put hb (List.mem_singleton.mpr rfl)
  have R1 : RowAt K r s (upd H b (.lst [.int (m - 1)])) := R.ext1 xb nbr nbs
  have B1 : BoxAt K r s b (upd H b (.lst [.int (m - 1)])) := ⟨nbr, nbs, m - 1, upd_same⟩
  have x1 : Ext [r, b] H (upd H b (.lst [.int (m - 1)])) := Ext.put hb mem2
  refine ⟨r, s, 9, rfl, R1, by decide, by decide, fun way H2 w0 w1 R2 x12 => ?_⟩
  have x2 := x1.trans x12.one
  have B2 := B1.row x12
  clear x12 x1 B1 R1 xb
  walk_at "rd"
  obtain ⟨_, _, m2, hb2⟩ := id B2
  refine ite2 (fun c => ?_) (fun c => ?_)
  · walk_at "rd"
    walk_at "rd"
    exact leafq H2 R2 x2 B2
  have d3 : 3 ≤ d := by have := ndec c; omega
  obtain ⟨n, rfl⟩ : ∃ n', n = n' + 1 := ⟨n - 1, by omega⟩
  obtain rfl := h0 n rfl
  have recq : ∀ (Q' : VK) (H3 : Hp) (a' : Addr) (u' d' : Int) (f' : List (Int × Int)), RowAt K r s H3 → Ext [r, b] H H3 → BoxAt K r s b H3 → Sc H3 a' f' → f'.length ≤ f.length + 1 → 0 ≤ u' → u' ≤ 3 → d' ≤ (n : Int) + 2 →
      (∀ (v : V) (H' : Hp) (e : E), RowAt K r s H' → Ext [r, b] H H' → Ext [r, b] H3 H' → BoxAt K r s b H' → TE K H' v e → e.hgt ≤ n + 3 → e.ok (dom f') → Q' v H') → spE K n [.ref r, .ref a', .int u', .int d', .ref b] H3 Q' E0 :=
    fun Q' H3 a' u' d' f' R3 x3 B3 S3 l3 u3 u4 hd3 k => ⟨r, s, a', b, u', d', f', rfl, R3, S3, by omega, u3, u4, hd3, B3, fun v H4 e R4 x4 B4 te eh eo => k v H4 e R4 (x3.trans x4) x4 B4 te eh eo⟩
  walk_at "rd"
  refine ite2 (fun c2 => ?_) (fun c2 => ?_)
  · walk_at "rd"
    walk_at "rd"
    exact leafq H2 R2 x2 B2
  walk_at "rd"
  refine ite2 (fun c3 => ?_) (fun c3 => ?_)
  · walk_at "rd"
    exact leafq H2 R2 x2 B2
  walk_at "rd"
  refine ite2 (fun c4 => ?_) (fun c4 => ?_)
  · -- a let
    walk_at "rd"
    intro l nl
    walk_at "rd"
    refine pick (E := E0) (zs := [0, 1, 1, 2, 3, 0]) R2 nl rfl (by decide) (by decide) fun so H3 mz R3 x3 => ?_
    have hso : 0 ≤ so ∧ so ≤ 3 := by
      have : so = 0 ∨ so = 1 ∨ so = 2 ∨ so = 3 ∨ so = 0 := by simpa using mz
      omega
    clear mz
    have B3 := B2.row x3
    walk_at "rd"
    refine ⟨r, s, 10, rfl, R3, by decide, by decide, fun k H4 k0 k1 R4 x4 => ?_⟩
    have B4 := B3.row x4
    have x04 := (x2.trans x3.one).trans x4.one
    walk_at "rd"
    refine recq _ H4 a so (d - 1) f R4 x04 B4 (S.ext x04) (by omega) hso.1 hso.2 (by omega) fun v5 H5 e5 R5 x05 x45 B5 te5 eh5 eo5 => ?_
    walk_at "rd"
    refine ⟨a, k, so, f, rfl, (S.ext x05).1, by omega, fun p H6 x6 np6 hp6 => ?_⟩
    walk_at "rd"
    refine recq _ H6 p u (d - 1) (pt f k so) (R5.ext0 x6) (x05.trans x6.to) (B5.ext0 x6) (S.bound (by omega) hp6 k0 k1) (pt_len f k so) u0 u1 (by omega) fun v7 H7 e7 R7 x07 x67 B7 te7 eh7 eo7 => ?_
    walk_at "rd"
    intro t nt
    have z8 := Ext.new (ms := []) (o := .tup [.str "let", .int k, v5, v7]) nt
    exact q (.ref t) _ (.elet k e5 e7) (R7.ext0 z8) (x07.trans z8.to) (B7.ext0 z8) ⟨t, _, _, rfl, SqT.of upd_same, TE.ext ((x6.to.trans x67).trans z8.to) te5, TE.ext z8 te7⟩
      (by simp only [Env.E.hgt]; omega) ⟨k0, by omega, eo5, eo7.mono fun j hj => dom_pt hj⟩
  walk_at "rd"
  refine ite2 (fun c5 => ?_) (fun c5 => ?_)
  · -- an if
    walk_at "rd"
    refine recq _ H2 a 0 (d - 2) f R2 x2 B2 (S.ext x2) (by omega) (by omega) (by omega) (by omega) fun v3 H3 e3 R3 x03 x23 B3 te3 eh3 eo3 => ?_
    walk_at "rd"
    refine recq _ H3 a u (d - 1) f R3 x03 B3 (S.ext x03) (by omega) u0 u1 (by omega) fun v4 H4 e4 R4 x04 x34 B4 te4 eh4 eo4 => ?_
    walk_at "rd"
    refine recq _ H4 a u (d - 1) f R4 x04 B4 (S.ext x04) (by omega) u0 u1 (by omega) fun v5 H5 e5 R5 x05 x45 B5 te5 eh5 eo5 => ?_
    walk_at "rd"
    intro t nt
    have z8 := Ext.new (ms := []) (o := .tup [.str "if", v3, v4, v5]) nt
    exact q (.ref t) _ (.eif e3 e4 e5) (R5.ext0 z8) (x05.trans z8.to) (B5.ext0 z8) ⟨t, _, _, _, rfl, SqT.of upd_same, TE.ext ((x34.trans x45).trans z8.to) te3, TE.ext (x45.trans z8.to) te4, TE.ext z8 te5⟩
      (by simp only [Env.E.hgt]; omega) ⟨eo3, eo4, eo5⟩
  walk_at "rd"
  refine share (T := ?T) (fun H' => H' = H2) (fun rest => ?main) ?rest
  case main =>
    refine ite2 (fun c6 => ?_) (fun c6 => ?_)
    · walk_at "rd"
      refine ite2 (fun c7 => ?_) (fun c7 => ?_)
      · -- a fun
        walk_at "rd"
        refine ⟨r, s, 10, rfl, R2, by decide, by decide, fun k H4 k0 k1 R4 x24 => ?_⟩
        have B4 := B2.row x24
        have x4 := x2.trans x24.one
        walk_at "rd"
        generalize hj : (if decide (V.int u = V.int 3) = true then (1 : Int) else 0) = j
        refine ⟨a, k, j, f, rfl, (S.ext x4).1, by omega, fun p H6 x6 np6 hp6 => ?_⟩
        walk_at "rd"
        generalize hj2 : (if decide (V.int u = V.int 2) = true then (1 : Int) else 0) = j2
        have jb : 0 ≤ j2 ∧ j2 ≤ 3 := by
          rw [← hj2]
          rcases cond01 (decide (V.int u = V.int 2)) with z | z <;> rw [z] <;> decide
        refine recq _ H6 p j2 (d - 1) (pt f k j) (R4.ext0 x6) (x4.trans x6.to) (B4.ext0 x6) (S.bound (by omega) hp6 k0 k1) (pt_len f k j) jb.1 jb.2 (by omega) fun v7 H7 e7 R7 x07 x67 B7 te7 eh7 eo7 => ?_
        walk_at "rd"
        intro t nt
        have z8 := Ext.new (ms := []) (o := .tup [.str "fun", .int k, v7]) nt
        exact q (.ref t) _ (.efun k e7) (R7.ext0 z8) (x07.trans z8.to) (B7.ext0 z8) ⟨t, _, rfl, SqT.of upd_same, TE.ext z8 te7⟩
          (by simp only [Env.E.hgt]; omega) ⟨k0, by omega, eo7.mono fun j hj => dom_pt hj⟩
      · exact rest H2 rfl
    · exact rest H2 rfl
  case rest =>
    intro H2' hH
    subst hH
    walk_at "rd"
    refine share (T := ?T2) (fun H'' => H'' = H2') (fun rest => ?main2) ?rest2
    case main2 =>
      refine ite2 (fun c6 => ?_) (fun c6 => ?_)
      · walk_at "rd"
        refine ite2 (fun c7 => ?_) (fun c7 => ?_)
        · -- a plus
          walk_at "rd"
          refine recq _ H2' a 0 (d - 1) f R2 x2 B2 (S.ext x2) (by omega) (by omega) (by omega) (by omega) fun v3 H3 e3 R3 x03 x23 B3 te3 eh3 eo3 => ?_
          walk_at "rd"
          refine recq _ H3 a 0 (d - 1) f R3 x03 B3 (S.ext x03) (by omega) (by omega) (by omega) (by omega) fun v4 H4 e4 R4 x04 x34 B4 te4 eh4 eo4 => ?_
          walk_at "rd"
          intro t nt
          have z8 := Ext.new (ms := []) (o := .tup [.str "plus", v3, v4]) nt
          exact q (.ref t) _ (.plus e3 e4) (R4.ext0 z8) (x04.trans z8.to) (B4.ext0 z8) ⟨t, _, _, rfl, SqT.of upd_same, TE.ext (x34.trans z8.to) te3, TE.ext z8 te4⟩
            (by simp only [Env.E.hgt]; omega) ⟨eo3, eo4⟩
        · exact rest H2' rfl
      · exact rest H2' rfl
    case rest2 =>
      intro H2 hH
      subst hH
      walk_at "rd"
      refine ite2 (fun c8 => ?_) (fun c8 => ?_)
      · -- a call
        have c8' : u < 2 := cdec c8
        walk_at "rd"
        intro l nl
        walk_at "rd"
        refine pick (E := E0) (zs := [1, 3]) R2 nl rfl (by decide) (by decide) fun so H3 mz R3 x3 => ?_
        have hso : so = 1 ∨ so = 3 := by simpa using mz
        have B3 := B2.row x3
        have x03 := x2.trans x3.one
        walk_at "rd"
        intro l2 nl2
        have x4 : Ext [] H3 (upd H3 l2 (.lst ([so, 2].map V.int))) := Ext.new nl2
        have hl2 : upd H3 l2 (.lst ([so, 2].map V.int)) l2 = some (.lst ([so, 2].map V.int)) := upd_same
        obtain ⟨y, my, hat⟩ := at_ints (ks := [so, 2]) u0 (by show u < 2; omega)
        have hy : 0 ≤ y ∧ y ≤ 3 := by
          have : y = so ∨ y = 2 := by simpa using my
          omega
        walk_at "rd"
        refine ⟨_, _, _, _, rfl, rfl, SqL.of hl2, hat, ?_⟩
        walk_at "rd"
        refine recq _ _ a y (d - 1) f (R3.ext0 x4) (x03.trans x4.to) (B3.ext0 x4) (S.ext (x03.trans x4.to)) (by omega) hy.1 hy.2 (by omega) fun v5 H5 e5 R5 x05 x45 B5 te5 eh5 eo5 => ?_
        walk_at "rd"
        generalize hj2 : (if decide (V.int y = V.int 3) = true then (1 : Int) else 0) = j2
        have jb : 0 ≤ j2 ∧ j2 ≤ 3 := by
          rw [← hj2]
          rcases cond01 (decide (V.int y = V.int 3)) with z | z <;> rw [z] <;> decide
        refine recq _ H5 a j2 (d - 1) f R5 x05 B5 (S.ext x05) (by omega) jb.1 jb.2 (by omega) fun v7 H7 e7 R7 x07 x57 B7 te7 eh7 eo7 => ?_
        walk_at "rd"
        intro t nt
        have z8 := Ext.new (ms := []) (o := .tup [.str "call", v5, v7]) nt
        exact q (.ref t) _ (.call e5 e7) (R7.ext0 z8) (x07.trans z8.to) (B7.ext0 z8) ⟨t, _, _, rfl, SqT.of upd_same, TE.ext (x57.trans z8.to) te5, TE.ext z8 te7⟩
          (by simp only [Env.E.hgt]; omega) ⟨eo5, eo7⟩
      · walk_at "rd"
        exact leafq H2 R2 x2 B2
theorem ok_l_e (T : Tx K mg) : ∀ n : Nat, FnOk P w K mg base CX0 (n + 3) T.l_e.f T.l_e.d P_l_e (spE K n)
  | 0 => ok_l_e_step T 0 _ (fn_never 2) fun _ z => by omega
  | n + 1 => ok_l_e_step T (n + 1) _ (ok_l_e T n) fun m z => by rw [show n = m by omega]
end
end Env
end
section
set_option Elab.async false
set_option linter.all false
set_option maxRecDepth 100000
set_option maxHeartbeats 4000000
namespace Env
open PySem L2
local macro_rules | `(tactic| walk_at "side") => `(tactic| first
  | assumption
  | ((try dsimp only); omega)
  | decide
  | exact ⟨by omega, by omega⟩
  | exact .inr ⟨by decide, by decide⟩
  | exact .inl ⟨by omega, by omega⟩)
local macro_rules | `(tactic| walk_at "rd1") => `(tactic| first
  | with_reducible refine Exists.intro _ (And.intro rfl ?_)
  | refine Exists.intro _ (And.intro rfl ?_)
  | refine ⟨_, _, rfl, rfl, ?_⟩
  | refine And.intro rfl ?_
  | refine ⟨_, _, _, _, rfl, rfl, SqL.of (by assumption), rfl, ?_⟩
  | refine ⟨_, _, _, _, rfl, rfl, SqL.of upd_same, rfl, ?_⟩
  | refine And.intro (szb rfl) ?_
  | refine And.intro (Or.inl (And.intro rfl (Exists.intro _ (SqL.of (by assumption))))) ?_
  | refine Or.inl (Exists.intro _ (And.intro rfl ?_))
  | refine Or.inr (Exists.intro _ (And.intro rfl ?_))
  | refine And.intro (by walk_at "side") ?_
  | refine ⟨_, _, _, _, rfl, rfl, (by assumption), rfl, ?_⟩
  | refine ⟨_, _, _, _, rfl, rfl, upd_same, rfl, ?_⟩
  | refine ⟨_, _, rfl, .inl (SqL.of (by assumption)), ?_⟩
  | refine ⟨_, _, rfl, .inl (SqL.of upd_same), ?_⟩
  | refine ⟨_, _, rfl, .inl (by assumption), ?_⟩)
local macro_rules | `(tactic| walk_at "rd") => `(tactic| repeat walk_at "rd1")
local macro_rules | `(tactic| walk_at "ds") => `(tactic| dsimp only [tNil, tCons, tC, tNoPart, tPart, tCB, tOp, tTest, tB, tCall, List.nil_append, List.cons_append, List.append_nil])
local macro_rules | `(tactic| walk_at "tup") => `(tactic| (intro t nt))

section
variable {P : Program} {w : World} {K : PySem.W.Frag} {mg : Str → Option Value} {base : Heap}
theorem ok_l_size_step (T : Tx K mg) (n : Nat) (G_l_size : FnOk P w K mg base CX0 (n + 1) T.l_size.f T.l_size.d P_l_size (spSize K n)) :
    FnOk P w K mg base CX0 (n + 2) T.l_size.f T.l_size.d P_l_size (spSize K (n + 1)) := by
  refine T.l_size.F.ok sc_l_size (fun vs H Q E h => ?_) (fun cdv A outer s' H vs Q X hr hsp => ?_)
  · obtain ⟨v, e, rfl, _⟩ := h
    rfl
  obtain ⟨v, e, rfl, te, eh, q⟩ := hsp
  refine ⟨_, (pss_one (ps_ret (pe_op op_add pe_int (pe_callB (id := "sum") (sumK (K := K) rfl rfl) (by rfl) T.B.b_sum (by decide +kernel) (pa_cons (pe_lc (own := [("_law_part", 1)]) (g := gName 1) (by rfl) sc_l_size.nd (piT (K := K) rfl (pe_slice (slT (K := K) rfl) (pv 0) (po_some pe_int) po_none)) (blkOk_by (N := N_l_size) (sc := defScope s_l_size) (by decide +kernel)) (fun _ _ _ _ _ => (pg_name (i := 1) sc_l_size.nd rfl (Or.inl rfl))) (fun _ _ _ _ _ => pts_one (pt_val (pe_callB (id := "isinstance") (isiK (K := K) rfl) (by rfl) T.B.b_isinstance (by decide +kernel) (pa_cons (pv 1) (pa_cons (pe_bltn (v := .ty "tuple") (u := .type "tuple") (by rfl) T.B.b_tuple (by decide +kernel) rfl) pa_nil))))) (fun _ _ _ _ _ => (pe_cl T.l_size (G_l_size) hr (by first | decide | omega) (by rfl) (pa_cons (pv 1) pa_nil)))) pa_nil))))), ?_⟩
  obtain ⟨p, vs, rfl, hp, hi⟩ := te.node
  walk_at "rd"
  dsimp only [tNoPart]
  refine sl1 hp fun T1 nT => ?_
  have x1 := Ext.new (ms := []) (o := .tup vs) nT
  refine ⟨T1, rfl, ⟨_, SqT.of upd_same⟩, fun D nD => ?_⟩
  have nD0 := new_old nD
  have x2 : Ext [] H (upd (upd H T1 (.tup vs)) D (.lst [])) := x1.nw nD
  have hvl := hi.len
  have hel := e.its_len
  refine lc_tup (K := K) (a := T1) (xs := vs) (fun i H' => ∃ zs : List Int, Ext [] H H' ∧ H' T1 = some (.tup vs) ∧ H' D = some (.lst (zs.map V.int)) ∧ zs.length ≤ i ∧ zs.sum = ((e.its.take i).map isz).sum)
    ⟨[], x2, by rw [upd_ne (new_ne nD).symm]; exact upd_same, upd_same, Nat.le_refl _, rfl⟩ (fun i H' _ ⟨_, _, h, _⟩ => SqT.of h) ?_ ?_
  · rintro i x H' hx ⟨zs, g1, g2, g3, g4, g5⟩
    have hi' := hi.ext g1
    have il : i < vs.length := (List.getElem?_eq_some_iff.mp hx).1
    refine ⟨rfl, ?_⟩
    walk_at "rd"
    rcases hi'.at hx with ⟨m, hm, rfl⟩ | ⟨c, hc, tc⟩
    · walk_at "ds"
      refine isi_int ?_
      walk_at "rd"
      refine ⟨zs, g1, g2, g3, Nat.le_succ_of_le g4, ?_⟩
      rw [List.take_succ, hm, List.map_append, List.sum_append, ← g5]
      show zs.sum = zs.sum + (0 + 0)
      omega
    · obtain ⟨pc, xc, rfl, hpc⟩ := tc.ref
      walk_at "ds"
      refine isi_tup hpc ?_
      walk_at "rd"
      refine ⟨_, c, rfl, tc, E.its_hgt eh (List.mem_of_getElem? hc), fun H2 x2 => ?_⟩
      refine ⟨_, x2.lst (fun z => nomatch z) g3, by rw [List.length_map]; exact small1000 (by omega), zs ++ [(c.size : Int)], (g1.trans x2).mut nD0, by rw [upd_ne (new_ne nD).symm]; exact x2.tup g2, by rw [upd_same, List.map_append]; rfl, by rw [List.length_append]; exact Nat.succ_le_succ g4, ?_⟩
      rw [List.take_succ, hc, List.map_append, List.sum_append, List.sum_append, g5]
      rfl
  · rintro H' ⟨zs, g1, g2, g3, g4, g5⟩
    walk_at "rd"
    refine ⟨D, zs, rfl, SqL.of g3, ?_⟩
    walk_at "rd"
    have e1 : zs.sum = (e.its.map isz).sum := by rw [g5, hvl, List.take_length]
    have q1 := q H' g1
    rw [Env.E.size_its, ← e1] at q1
    exact q1
theorem ok_l_size (T : Tx K mg) : ∀ n : Nat, FnOk P w K mg base CX0 (n + 1) T.l_size.f T.l_size.d P_l_size (spSize K n)
  | 0 => (fn_never 1).imp fun vs H Q E ⟨v, e, _, _, h, _⟩ => by cases e <;> simp [Env.E.hgt] at h
  | n + 1 => ok_l_size_step T n (ok_l_size T n)
end
end Env
end
section
set_option Elab.async false
set_option linter.all false
set_option maxRecDepth 100000
set_option maxHeartbeats 4000000
namespace Env
open PySem L2
local macro_rules | `(tactic| walk_at "side") => `(tactic| first
  | assumption
  | ((try dsimp only); omega)
  | decide
  | exact ⟨by omega, by omega⟩
  | exact .inr ⟨by decide, by decide⟩
  | exact .inl ⟨by omega, by omega⟩)
local macro_rules | `(tactic| walk_at "rd1") => `(tactic| first
  | with_reducible refine Exists.intro _ (And.intro rfl ?_)
  | refine Exists.intro _ (And.intro rfl ?_)
  | refine ⟨_, _, rfl, rfl, ?_⟩
  | refine And.intro rfl ?_
  | refine ⟨_, _, _, _, rfl, rfl, SqL.of (by assumption), rfl, ?_⟩
  | refine ⟨_, _, _, _, rfl, rfl, SqL.of upd_same, rfl, ?_⟩
  | refine And.intro (szb rfl) ?_
  | refine And.intro (Or.inl (And.intro rfl (Exists.intro _ (SqL.of (by assumption))))) ?_
  | refine Or.inl (Exists.intro _ (And.intro rfl ?_))
  | refine Or.inr (Exists.intro _ (And.intro rfl ?_))
  | refine And.intro (by walk_at "side") ?_
  | refine ⟨_, _, _, _, rfl, rfl, (by assumption), rfl, ?_⟩
  | refine ⟨_, _, _, _, rfl, rfl, upd_same, rfl, ?_⟩
  | refine ⟨_, _, rfl, .inl (SqL.of (by assumption)), ?_⟩
  | refine ⟨_, _, rfl, .inl (SqL.of upd_same), ?_⟩
  | refine ⟨_, _, rfl, .inl (by assumption), ?_⟩)
local macro_rules | `(tactic| walk_at "rd") => `(tactic| repeat walk_at "rd1")
local macro_rules | `(tactic| walk_at "ds") => `(tactic| dsimp only [tNil, tCons, tC, tNoPart, tPart, tCB, tOp, tTest, tB, tCall, List.nil_append, List.cons_append, List.append_nil])
local macro_rules | `(tactic| walk_at "tup") => `(tactic| (intro t nt))

section
variable {P : Program} {w : World} {K : PySem.W.Frag} {mg : Str → Option Value} {base : Heap}
theorem ok_l_small (T : Tx K mg) : FnOk P w K mg base CX0 2 T.l_small.f T.l_small.d P_l_small (spSmall K) := by
  refine T.l_small.F.ok sc_l_small (fun vs H Q E h => ?_) (fun cdv A outer s' H vs Q X hr hsp => ?_)
  · obtain ⟨r, s, l, ks, rfl, _⟩ := h
    rfl
  obtain ⟨r, s, l, ks, rfl, R, hl, hne, h64, hk, q⟩ := hsp
  refine ⟨_, (pss_cons (ps_set (i := 2) sc_l_small.nd rfl (Or.inl rfl) (pe_tup (pa_cons pe_str (pa_cons (pe_ix (ixL (K := K) rfl) (pv 1) (pe_cl T.l_taken (ok_l_taken T) hr (by first | decide | omega) (by rfl) (pa_cons (pv 0) (pa_cons (pe_callB (id := "len") (lenS (K := K) rfl) (by rfl) T.B.b_len (by decide +kernel) (pa_cons (pv 1) pa_nil)) pa_nil))) (fun _ _ => rfl)) pa_nil))))
    (pss_one (ps_ret (pe_ix (ixL (K := K) rfl) (pe_lst (pa_cons (pv 2) (pa_cons (pv 2) (pa_cons (pe_tup (pa_cons pe_str (pa_cons (pe_cl T.l_taken (ok_l_taken T) hr (by first | decide | omega) (by rfl) (pa_cons (pv 0) (pa_cons pe_int pa_nil))) pa_nil))) (pa_cons (pe_tup (pa_cons pe_str (pa_cons (pv 2) (pa_cons (pe_tup (pa_cons pe_str (pa_cons (pe_cl T.l_taken (ok_l_taken T) hr (by first | decide | omega) (by rfl) (pa_cons (pv 0) (pa_cons pe_int pa_nil))) pa_nil))) pa_nil)))) pa_nil))))) (pe_cl T.l_taken (ok_l_taken T) hr (by first | decide | omega) (by rfl) (pa_cons (pv 0) (pa_cons pe_int pa_nil))) (fun _ _ => rfl))))), ?_⟩
  have hl0 : 0 < (ks.length : Int) := by
    have := List.length_pos_iff.mpr hne
    omega
  walk_at "rd"
  refine ⟨r, s, (((ks.map V.int).length : Nat) : Int), rfl, R, by rw [List.length_map]; exact hl0, by rw [List.length_map]; omega, fun y H1 y0 y1 R1 x1 => ?_⟩
  rw [List.length_map] at y1
  obtain ⟨k, mk, hat⟩ := at_ints y0 y1
  refine ⟨_, _, _, _, rfl, rfl, SqL.of (x1.lst (not_in_one (lst_row_ne R hl)) hl), hat, ?_⟩
  walk_at "rd"
  intro t nt
  have gn : Gives K (upd H1 t (.tup [.str "name", .int k])) 1 1 (· ∈ ks) (.ref t) := gives_nam (SqT.of upd_same) (hk k mk).1 (hk k mk).2 mk
  have x2 := x1.nw (o := .tup [.str "name", .int k]) nt
  have R2 : RowAt K r s (upd H1 t (.tup [.str "name", .int k])) := R1.ext0 (Ext.new nt)
  generalize upd H1 t (.tup [.str "name", .int k]) = H2 at gn x2 R2 ⊢
  generalize V.ref t = v at gn ⊢
  walk_at "rd"
  refine ⟨r, s, 10, rfl, R2, by decide, by decide, fun a H3 a0 a1 R3 x3 => ?_⟩
  walk_at "rd"
  intro t3 nt3
  have g4 : Gives K (upd H3 t3 (.tup [.str "num", .int a])) 1 1 (· ∈ ks) (.ref t3) := gives_num (SqT.of upd_same) a0 (by omega)
  have x4 := Ext.new (ms := [r]) (o := .tup [.str "num", .int a]) nt3
  have R4 := R3.ext0 (Ext.new (o := .tup [.str "num", .int a]) nt3)
  generalize upd H3 t3 (.tup [.str "num", .int a]) = H4 at g4 x4 R4 ⊢
  generalize V.ref t3 = v4 at g4 ⊢
  walk_at "rd"
  refine ⟨r, s, 10, rfl, R4, by decide, by decide, fun b H5 b0 b1 R5 x5 => ?_⟩
  walk_at "rd"
  intro t6 nt6
  have g6 : Gives K (upd H5 t6 (.tup [.str "num", .int b])) 1 1 (· ∈ ks) (.ref t6) := gives_num (SqT.of upd_same) b0 (by omega)
  have x6 := Ext.new (ms := [r]) (o := .tup [.str "num", .int b]) nt6
  have R6 := R5.ext0 (Ext.new (o := .tup [.str "num", .int b]) nt6)
  generalize upd H5 t6 (.tup [.str "num", .int b]) = H6 at g6 x6 R6 ⊢
  generalize V.ref t6 = v6 at g6 ⊢
  walk_at "rd"
  intro t7 nt7
  have x26 := ((x3.trans x4).trans x5).trans x6
  have g7 : Gives K (upd H6 t7 (.tup [.str "plus", v, v6])) 2 3 (· ∈ ks) (.ref t7) := gives_plus (SqT.of upd_same) ((gn.ext x26).ext (Ext.new (ms := []) nt7)) (g6.ext (Ext.new (ms := []) nt7))
  have x7 := Ext.new (ms := [r]) (o := .tup [.str "plus", v, v6]) nt7
  have R7 := R6.ext0 (Ext.new (o := .tup [.str "plus", v, v6]) nt7)
  generalize upd H6 t7 (.tup [.str "plus", v, v6]) = H7 at g7 x7 R7 ⊢
  generalize V.ref t7 = v7 at g7 ⊢
  walk_at "rd"
  intro l8 n8
  have h8 : upd H7 l8 (.lst [v, v, v4, v7]) l8 = some (.lst [v, v, v4, v7]) := upd_same
  have x8 := Ext.new (ms := [r]) (o := .lst [v, v, v4, v7]) n8
  have R8 := R7.ext0 (Ext.new (o := .lst [v, v, v4, v7]) n8)
  have nl8 : l8 ≠ r := R7.ne_new n8
  generalize upd H7 l8 (.lst [v, v, v4, v7]) = H8 at h8 x8 R8 ⊢
  walk_at "rd"
  refine ⟨r, s, 4, rfl, R8, by decide, by decide, fun z H9 z0 z1 R9 x9 => ?_⟩
  have h9 := x9.lst (not_in_one nl8) h8
  obtain ⟨u, mu, hat9⟩ := at_any (xs := [v, v, v4, v7]) z0 z1
  refine ⟨_, _, _, _, rfl, rfl, SqL.of h9, hat9, ?_⟩
  refine q u H9 R9 (((((x2.trans x26).trans x7).trans x8).trans x9)) ?_
  have x79 := x8.trans x9
  have x29 := ((x26.trans x7).trans x79)
  have mu : u = v ∨ u = v ∨ u = v4 ∨ u = v7 := by simpa using mu
  rcases mu with rfl | rfl | rfl | rfl
  · exact (gn.ext x29).mono (by decide) (by decide) fun _ z => z
  · exact (gn.ext x29).mono (by decide) (by decide) fun _ z => z
  · exact (g4.ext (((x5.trans x6).trans x7).trans x79)).mono (by decide) (by decide) fun _ z => z
  · exact g7.ext x79
end
end Env
end
section
set_option Elab.async false
set_option linter.all false
set_option maxRecDepth 100000
set_option maxHeartbeats 4000000
namespace Env
open PySem L2
local macro_rules | `(tactic| walk_at "side") => `(tactic| first
  | assumption
  | ((try dsimp only); omega)
  | decide
  | exact ⟨by omega, by omega⟩
  | exact .inr ⟨by decide, by decide⟩
  | exact .inl ⟨by omega, by omega⟩)
local macro_rules | `(tactic| walk_at "rd1") => `(tactic| first
  | with_reducible refine Exists.intro _ (And.intro rfl ?_)
  | refine Exists.intro _ (And.intro rfl ?_)
  | refine ⟨_, _, rfl, rfl, ?_⟩
  | refine And.intro rfl ?_
  | refine ⟨_, _, _, _, rfl, rfl, SqL.of (by assumption), rfl, ?_⟩
  | refine ⟨_, _, _, _, rfl, rfl, SqL.of upd_same, rfl, ?_⟩
  | refine And.intro (szb rfl) ?_
  | refine And.intro (Or.inl (And.intro rfl (Exists.intro _ (SqL.of (by assumption))))) ?_
  | refine Or.inl (Exists.intro _ (And.intro rfl ?_))
  | refine Or.inr (Exists.intro _ (And.intro rfl ?_))
  | refine And.intro (by walk_at "side") ?_
  | refine ⟨_, _, _, _, rfl, rfl, (by assumption), rfl, ?_⟩
  | refine ⟨_, _, _, _, rfl, rfl, upd_same, rfl, ?_⟩
  | refine ⟨_, _, rfl, .inl (SqL.of (by assumption)), ?_⟩
  | refine ⟨_, _, rfl, .inl (SqL.of upd_same), ?_⟩
  | refine ⟨_, _, rfl, .inl (by assumption), ?_⟩)
local macro_rules | `(tactic| walk_at "rd") => `(tactic| repeat walk_at "rd1")
local macro_rules | `(tactic| walk_at "ds") => `(tactic| dsimp only [tNil, tCons, tC, tNoPart, tPart, tCB, tOp, tTest, tB, tCall, List.nil_append, List.cons_append, List.append_nil])
local macro_rules | `(tactic| walk_at "tup") => `(tactic| (intro t nt))

section
variable {P : Program} {w : World} {K : PySem.W.Frag} {mg : Str → Option Value} {base : Heap}
theorem ok_l_makers (T : Tx K mg) : FnOk P w K mg base CX0 3 T.l_makers.f T.l_makers.d P_l_makers (spMakers K) := by
  refine T.l_makers.F.ok sc_l_makers (fun vs H Q E h => ?_) (fun cdv A outer s' H vs Q EE hr hsp => ?_)
  · obtain ⟨r, s, rfl, _⟩ := h
    rfl
  obtain ⟨r, s, rfl, R, q⟩ := hsp
  refine ⟨_, (pss_cons (ps_set (i := 1) sc_l_makers.nd rfl (Or.inr rfl) (pe_cl T.l_taken (ok_l_taken T) hr (by first | decide | omega) (by rfl) (pa_cons (pv 0) (pa_cons pe_int pa_nil))))
    (pss_cons (ps_asg (pe_lc (own := [("_law_k", 9)]) (g := gName 9) (tt := tYes) (by rfl) sc_l_makers.nd (pi_range1 (by rfl) T.B.b_range (pa_cons pe_int pa_nil)) (blkOk_by (N := N_l_makers) (sc := defScope s_l_makers) (by decide +kernel)) (fun _ _ _ _ _ => (pg_name (i := 9) sc_l_makers.nd rfl (Or.inl rfl))) (fun _ _ _ _ _ => pts_nil) (fun _ _ _ _ _ => (pe_op op_mod (pe_op op_add (pv 9) (pv 1)) pe_int))) (pg_unl rfl (pgs_cons (pg_name (i := 2) sc_l_makers.nd rfl (Or.inl rfl)) (pgs_cons (pg_name (i := 3) sc_l_makers.nd rfl (Or.inl rfl)) (pgs_cons (pg_name (i := 4) sc_l_makers.nd rfl (Or.inl rfl)) (pgs_cons (pg_name (i := 5) sc_l_makers.nd rfl (Or.inl rfl)) (pgs_cons (pg_name (i := 6) sc_l_makers.nd rfl (Or.inl rfl)) (pgs_cons (pg_name (i := 7) sc_l_makers.nd rfl (Or.inl rfl)) (pgs_cons (pg_name (i := 8) sc_l_makers.nd rfl (Or.inl rfl)) pgs_nil)))))))))
    (pss_cons (ps_set (i := 10) sc_l_makers.nd rfl (Or.inl rfl) (pe_tup (pa_cons pe_str (pa_cons (pe_cl T.l_small (ok_l_small T) hr (by first | decide | omega) (by rfl) (pa_cons (pv 0) (pa_cons (pe_lst (pa_cons (pv 2) (pa_cons (pv 3) (pa_cons (pv 4) pa_nil)))) pa_nil))) (pa_cons (pe_cl T.l_small (ok_l_small T) hr (by first | decide | omega) (by rfl) (pa_cons (pv 0) (pa_cons (pe_lst (pa_cons (pv 2) (pa_cons (pv 3) (pa_cons (pv 4) pa_nil)))) pa_nil))) (pa_cons (pe_cl T.l_small (ok_l_small T) hr (by first | decide | omega) (by rfl) (pa_cons (pv 0) (pa_cons (pe_lst (pa_cons (pv 2) (pa_cons (pv 3) (pa_cons (pv 4) pa_nil)))) pa_nil))) pa_nil))))))
    (pss_cons (ps_if (pt_cmpR op_eq (pe_cl T.l_taken (ok_l_taken T) hr (by first | decide | omega) (by rfl) (pa_cons (pv 0) (pa_cons pe_int pa_nil))) pe_int (nomark _)) (pss_cons (ps_set (i := 10) sc_l_makers.nd rfl (Or.inl rfl) (pe_tup (pa_cons pe_str (pa_cons (pe_cl T.l_small (ok_l_small T) hr (by first | decide | omega) (by rfl) (pa_cons (pv 0) (pa_cons (pe_lst (pa_cons (pv 2) (pa_cons (pv 3) (pa_cons (pv 4) pa_nil)))) pa_nil))) (pa_cons (pe_tup (pa_cons pe_str (pa_cons (pv 8) pa_nil))) (pa_cons (pe_tup (pa_cons pe_str (pa_cons (pv 3) pa_nil))) pa_nil))))))
    (pss_one (ps_set (i := 10) sc_l_makers.nd rfl (Or.inl rfl) (pe_tup (pa_cons pe_str (pa_cons (pv 8) (pa_cons (pe_tup (pa_cons pe_str (pa_cons (pe_tup (pa_cons pe_str (pa_cons (pv 2) pa_nil))) (pa_cons (pe_tup (pa_cons pe_str (pa_cons pe_int pa_nil))) pa_nil)))) (pa_cons (pv 10) pa_nil)))))))) pss_nil)
    (pss_cons (ps_set (i := 11) sc_l_makers.nd rfl (Or.inl rfl) (pe_tup (pa_cons pe_str (pa_cons (pv 2) (pa_cons (pe_tup (pa_cons pe_str (pa_cons (pv 3) (pa_cons (pe_tup (pa_cons pe_str (pa_cons (pv 4) (pa_cons (pv 10) pa_nil)))) pa_nil)))) pa_nil)))))
    (pss_cons (ps_set (i := 12) sc_l_makers.nd rfl (Or.inl rfl) (pe_lst pa_nil))
    (pss_cons (ps_for PassesOwn.never rfl (pi_range1 (by rfl) T.B.b_range (pa_cons pe_int pa_nil)) (pg_name (i := 9) sc_l_makers.nd rfl (Or.inl rfl)) (pss_one (ps_expr (pe_bm PySem.F.plainAttrs_list PySem.F.slot_list_append PySem.F.type_list_append mt_append (pv 12) (pa_cons (pe_tup (pa_cons pe_str (pa_cons (pe_tup (pa_cons pe_str (pa_cons (pe_tup (pa_cons pe_str (pa_cons (pv 5) pa_nil))) (pa_cons (pe_tup (pa_cons pe_str (pa_cons (pe_cl T.l_taken (ok_l_taken T) hr (by first | decide | omega) (by rfl) (pa_cons (pv 0) (pa_cons pe_int pa_nil))) pa_nil))) pa_nil)))) (pa_cons (pe_tup (pa_cons pe_str (pa_cons (pe_cl T.l_taken (ok_l_taken T) hr (by first | decide | omega) (by rfl) (pa_cons (pv 0) (pa_cons pe_int pa_nil))) pa_nil))) pa_nil)))) pa_nil)))))
    (pss_cons (ps_set (i := 13) sc_l_makers.nd rfl (Or.inl rfl) (pe_lst (pa_cons (pe_tup (pa_cons pe_str (pa_cons (pe_tup (pa_cons pe_str (pa_cons (pv 6) pa_nil))) (pa_cons (pe_tup (pa_cons pe_str (pa_cons (pe_cl T.l_taken (ok_l_taken T) hr (by first | decide | omega) (by rfl) (pa_cons (pv 0) (pa_cons pe_int pa_nil))) pa_nil))) pa_nil)))) (pa_cons (pe_tup (pa_cons pe_str (pa_cons (pe_tup (pa_cons pe_str (pa_cons (pv 7) pa_nil))) (pa_cons (pe_tup (pa_cons pe_str (pa_cons (pe_cl T.l_taken (ok_l_taken T) hr (by first | decide | omega) (by rfl) (pa_cons (pv 0) (pa_cons pe_int pa_nil))) pa_nil))) pa_nil)))) pa_nil))))
    (pss_cons (ps_set (i := 14) sc_l_makers.nd rfl (Or.inl rfl) (pe_lst (pa_cons (pe_ix (ixL (K := K) rfl) (pv 13) pe_int (fun _ _ => rfl)) (pa_cons (pe_tup (pa_cons pe_str (pa_cons (pe_ix (ixL (K := K) rfl) (pv 13) pe_int (fun _ _ => rfl)) (pa_cons (pe_tup (pa_cons pe_str (pa_cons (pe_ix (ixL (K := K) rfl) (pv 13) pe_int (fun _ _ => rfl)) (pa_cons (pe_ix (ixL (K := K) rfl) (pv 13) pe_int (fun _ _ => rfl)) pa_nil)))) pa_nil)))) (pa_cons (pe_tup (pa_cons pe_str (pa_cons (pv 6) pa_nil))) (pa_cons (pe_tup (pa_cons pe_str (pa_cons (pv 7) pa_nil))) pa_nil))))))
    (pss_cons (ps_expr (pe_bm PySem.F.plainAttrs_list PySem.F.slot_list_append PySem.F.type_list_append mt_append (pv 14) (pa_cons (pe_tup (pa_cons pe_str (pa_cons (pv 8) (pa_cons (pe_tup (pa_cons pe_str (pa_cons (pe_tup (pa_cons pe_str (pa_cons (pe_tup (pa_cons pe_str (pa_cons (pv 7) pa_nil))) (pa_cons (pe_tup (pa_cons pe_str (pa_cons (pv 8) pa_nil))) pa_nil)))) (pa_cons (pe_tup (pa_cons pe_str (pa_cons (pe_tup (pa_cons pe_str (pa_cons (pv 6) pa_nil))) (pa_cons (pe_tup (pa_cons pe_str (pa_cons (pv 8) pa_nil))) pa_nil)))) pa_nil)))) pa_nil)))) pa_nil)))
    (pss_one (ps_ret (pe_tup (pa_cons pe_str (pa_cons (pv 5) (pa_cons (pv 11) (pa_cons (pe_tup (pa_cons pe_str (pa_cons (pv 6) (pa_cons (pe_ix (ixL (K := K) rfl) (pv 12) pe_int (fun _ _ => rfl)) (pa_cons (pe_tup (pa_cons pe_str (pa_cons (pv 7) (pa_cons (pe_ix (ixL (K := K) rfl) (pv 12) pe_int (fun _ _ => rfl)) (pa_cons (pe_ix (ixL (K := K) rfl) (pv 14) (pe_cl T.l_taken (ok_l_taken T) hr (by first | decide | omega) (by rfl) (pa_cons (pv 0) (pa_cons pe_int pa_nil))) (fun _ _ => rfl)) pa_nil))))) pa_nil))))) pa_nil))))))))))))))))), ?_⟩

  have X := Ext.refl [r] H
  walk_at "rd"
  refine ⟨r, s, 10, rfl, R, by decide, by decide, fun far H1 a0 a1 R2 x2 => ?_⟩
  replace R := R2
  replace X := X.trans x2
  clear R2 x2
  walk_at "rd"
  intro D nD
  have nDr : D ≠ r := R.ne_new nD
  refine lc_range (lo := 0) (n := 7) (fun i H' => Ext [] H1 H' ∧ H' D = some (.lst ((List.range i).map fun k => V.int (((0 : Int) + (k : Nat) + far) % 10)))) ⟨Ext.new nD, upd_same⟩ ?_ ?_
  · rintro i H' hi ⟨g1, g2⟩
    refine ⟨rfl, ?_⟩
    walk_at "rd"
    refine ⟨_, g2, by rw [List.length_map, List.length_range]; exact small1000 (by omega), g1.mut nD, ?_⟩
    rw [upd_same, List.range_succ, List.map_append]
    rfl
  rintro H2 ⟨x2, hD⟩
  have hx : ∀ k : Nat, ∃ y : Int, (0 ≤ y ∧ y ≤ 9) ∧ ((0 : Int) + k + far) % 10 = y := fun k => ⟨_, ⟨Int.emod_nonneg _ (by decide), by have := Int.emod_lt_of_pos ((0 : Int) + k + far) (by decide : (0 : Int) < 10); omega⟩, rfl⟩
  have hD7 : H2 D = some (.lst [V.int (((0 : Int) + (0 : Nat) + far) % 10), V.int (((0 : Int) + (1 : Nat) + far) % 10), V.int (((0 : Int) + (2 : Nat) + far) % 10), V.int (((0 : Int) + (3 : Nat) + far) % 10), V.int (((0 : Int) + (4 : Nat) + far) % 10), V.int (((0 : Int) + (5 : Nat) + far) % 10), V.int (((0 : Int) + (6 : Nat) + far) % 10)]) := hD
  obtain ⟨a, ba, ea⟩ := hx 0
  obtain ⟨b, bb, eb⟩ := hx 1
  obtain ⟨c, bc, ec⟩ := hx 2
  obtain ⟨mk, bm, em⟩ := hx 3
  obtain ⟨on, bo, eo⟩ := hx 4
  obtain ⟨tw, bt, et⟩ := hx 5
  obtain ⟨xx, bx, ex⟩ := hx 6
  rw [ea, eb, ec, em, eo, et, ex] at hD7
  clear hx hD ea eb ec em eo et ex
  replace R := R.ext0 x2
  replace X := X.trans (x2.to (ns := [r]))
  clear x2
  let S1 : Int → Prop := fun j => j = a ∨ False
  let S2 : Int → Prop := fun j => j = b ∨ S1 j
  let S3 : Int → Prop := fun j => j = c ∨ S2 j
  let S4 : Int → Prop := fun j => j = xx ∨ S3 j
  have hS3 : ∀ j, j ∈ [a, b, c] → S3 j := fun j hj => by
    have : j = a ∨ j = b ∨ j = c := by simpa using hj
    rcases this with h | h | h
    · exact .inr (.inr (.inl h))
    · exact .inr (.inl h)
    · exact .inl h
  have hS4 : ∀ j, j ∈ [a, b, c] → S4 j := fun j hj => .inr (hS3 j hj)
  have hb3 : ∀ k ∈ [a, b, c], 0 ≤ k ∧ k ≤ 9 := fun j hj => by
    have : j = a ∨ j = b ∨ j = c := by simpa using hj
    rcases this with rfl | rfl | rfl <;> assumption
  walk_at "rd"
  refine ⟨D, _, rfl, SqL.of hD7, rfl, ?_⟩
  refine ⟨_, _, rfl, ?_⟩
  refine ⟨_, _, rfl, ?_⟩
  refine ⟨_, _, rfl, ?_⟩
  refine ⟨_, _, rfl, ?_⟩
  refine ⟨_, _, rfl, ?_⟩
  refine ⟨_, _, rfl, ?_⟩
  refine ⟨_, _, rfl, ?_⟩
  walk_at "rd"
  walk_at "rd"
  intro l1 nl
  have x2 : Ext [r] H2 (upd H2 l1 (.lst [.int a, .int b, .int c])) := Ext.new nl
  have n_h_l1 : l1 ≠ r := R.ne_new nl
  have s_l1 : Off K s l1 := R.off nl
  have o_l1 : H l1 = none := X.fresh1 R nl
  have h_l1 : upd H2 l1 (.lst [.int a, .int b, .int c]) l1 = some (.lst [.int a, .int b, .int c]) := upd_same
  replace R := R.ext0 (Ext.new (o := (.lst [.int a, .int b, .int c])) nl)
  replace X := X.trans x2
  clear x2
  generalize upd H2 l1 (.lst [.int a, .int b, .int c]) = H102 at R X h_l1 ⊢
  clear nl
  walk_at "rd"
  refine ⟨r, s, l1, [a, b, c], rfl, R, h_l1, (fun z => nomatch z), (by show 3 < 64; decide), hb3, fun v1 H103 R2 x2 g2 => ?_⟩
  replace R := R2
  replace X := X.trans x2
  replace h_l1 := x2.lst (not_in_one n_h_l1) h_l1
  have g1 := g2
  clear R2 x2 g2
  replace g1 := g1.mono (Nat.le_refl _) (Nat.le_refl _) hS3
  clear h_l1
  walk_at "rd"
  intro l4 nl
  have x2 : Ext [r] H103 (upd H103 l4 (.lst [.int a, .int b, .int c])) := Ext.new nl
  have n_h_l4 : l4 ≠ r := R.ne_new nl
  have s_l4 : Off K s l4 := R.off nl
  have o_l4 : H l4 = none := X.fresh1 R nl
  have h_l4 : upd H103 l4 (.lst [.int a, .int b, .int c]) l4 = some (.lst [.int a, .int b, .int c]) := upd_same
  replace R := R.ext0 (Ext.new (o := (.lst [.int a, .int b, .int c])) nl)
  replace X := X.trans x2
  replace g1 := g1.ext x2
  clear x2
  generalize upd H103 l4 (.lst [.int a, .int b, .int c]) = H105 at R X h_l4 g1 ⊢
  clear nl
  walk_at "rd"
  refine ⟨r, s, l4, [a, b, c], rfl, R, h_l4, (fun z => nomatch z), (by show 3 < 64; decide), hb3, fun v4 H106 R2 x2 g2 => ?_⟩
  replace R := R2
  replace X := X.trans x2
  replace g1 := g1.ext x2
  replace h_l4 := x2.lst (not_in_one n_h_l4) h_l4
  have g4 := g2
  clear R2 x2 g2
  replace g4 := g4.mono (Nat.le_refl _) (Nat.le_refl _) hS3
  clear h_l4
  walk_at "rd"
  intro l7 nl
  have x2 : Ext [r] H106 (upd H106 l7 (.lst [.int a, .int b, .int c])) := Ext.new nl
  have n_h_l7 : l7 ≠ r := R.ne_new nl
  have s_l7 : Off K s l7 := R.off nl
  have o_l7 : H l7 = none := X.fresh1 R nl
  have h_l7 : upd H106 l7 (.lst [.int a, .int b, .int c]) l7 = some (.lst [.int a, .int b, .int c]) := upd_same
  replace R := R.ext0 (Ext.new (o := (.lst [.int a, .int b, .int c])) nl)
  replace X := X.trans x2
  replace g1 := g1.ext x2
  replace g4 := g4.ext x2
  clear x2
  generalize upd H106 l7 (.lst [.int a, .int b, .int c]) = H108 at R X h_l7 g1 g4 ⊢
  clear nl
  walk_at "rd"
  refine ⟨r, s, l7, [a, b, c], rfl, R, h_l7, (fun z => nomatch z), (by show 3 < 64; decide), hb3, fun v7 H109 R2 x2 g2 => ?_⟩
  replace R := R2
  replace X := X.trans x2
  replace g1 := g1.ext x2
  replace g4 := g4.ext x2
  replace h_l7 := x2.lst (not_in_one n_h_l7) h_l7
  have g7 := g2
  clear R2 x2 g2
  replace g7 := g7.mono (Nat.le_refl _) (Nat.le_refl _) hS3
  clear h_l7
  walk_at "rd"
  intro t nt
  have x2 : Ext [r] H109 (upd H109 t (.tup [.str "if", v1, v4, v7])) := Ext.new nt
  have hT : SqT K (upd H109 t (.tup [.str "if", v1, v4, v7])) t [.str "if", v1, v4, v7] := SqT.of upd_same
  replace R := R.ext0 (Ext.new (o := (.tup [.str "if", v1, v4, v7])) nt)
  replace X := X.trans x2
  replace g1 := g1.ext x2
  replace g4 := g4.ext x2
  replace g7 := g7.ext x2
  have gb : Gives K (upd H109 t (.tup [.str "if", v1, v4, v7])) 4 10 S3 (.ref t) := (gives_if hT g1 g4 g7).mono (by decide) (by decide) fun _ z => z
  clear hT x2
  generalize upd H109 t (.tup [.str "if", v1, v4, v7]) = H110 at R X gb g1 g4 g7 ⊢
  generalize V.ref t = vb at gb ⊢
  clear nt
  clear g1
  clear g4
  clear g7
  dsimp only [gName]
  refine seq_cut (fun σ' H' => ∃ v, σ' = [some (.ref r), some (.int far), some (.int a), some (.int b), some (.int c), some (.int mk), some (.int on), some (.int tw), some (.int xx), none, some v, none, none, none, none] ∧ RowAt K r s H' ∧ Ext [r] H H' ∧ Gives K H' 4 10 S3 v) (fun rest2 => ?main2) ?rest2
  case main2 =>
    walk_at "rd"
    refine ⟨r, s, 2, rfl, R, by decide, by decide, fun z2 H111 z2_0 z2_1 R2 x2 => ?_⟩
    replace R := R2
    replace X := X.trans x2
    replace gb := gb.ext x2
    clear R2 x2
    walk_at "rd"
    refine ite2 (fun c1 => ?_) (fun c1 => ?_)
    · skip
      walk_at "rd"
      intro l12 nl
      have x2 : Ext [r] H111 (upd H111 l12 (.lst [.int a, .int b, .int c])) := Ext.new nl
      have n_h_l12 : l12 ≠ r := R.ne_new nl
      have s_l12 : Off K s l12 := R.off nl
      have o_l12 : H l12 = none := X.fresh1 R nl
      have h_l12 : upd H111 l12 (.lst [.int a, .int b, .int c]) l12 = some (.lst [.int a, .int b, .int c]) := upd_same
      replace R := R.ext0 (Ext.new (o := (.lst [.int a, .int b, .int c])) nl)
      replace X := X.trans x2
      clear x2
      generalize upd H111 l12 (.lst [.int a, .int b, .int c]) = H113 at R X h_l12 ⊢
      clear nl
      walk_at "rd"
      refine ⟨r, s, l12, [a, b, c], rfl, R, h_l12, (fun z => nomatch z), (by show 3 < 64; decide), hb3, fun v12 H114 R2 x2 g2 => ?_⟩
      replace R := R2
      replace X := X.trans x2
      replace h_l12 := x2.lst (not_in_one n_h_l12) h_l12
      have g12 := g2
      clear R2 x2 g2
      replace g12 := g12.mono (Nat.le_refl _) (Nat.le_refl _) hS4
      clear h_l12
      walk_at "rd"
      intro t nt
      have x2 : Ext [r] H114 (upd H114 t (.tup [.str "name", .int xx])) := Ext.new nt
      have hT : SqT K (upd H114 t (.tup [.str "name", .int xx])) t [.str "name", .int xx] := SqT.of upd_same
      replace R := R.ext0 (Ext.new (o := (.tup [.str "name", .int xx])) nt)
      replace X := X.trans x2
      replace g12 := g12.ext x2
      have gx : Gives K (upd H114 t (.tup [.str "name", .int xx])) 1 1 S4 (.ref t) := gives_nam hT bx.1 bx.2 (.inl rfl)
      clear hT x2
      generalize upd H114 t (.tup [.str "name", .int xx]) = H115 at R X gx g12 ⊢
      generalize V.ref t = vx at gx ⊢
      clear nt
      walk_at "rd"
      intro t nt
      have x2 : Ext [r] H115 (upd H115 t (.tup [.str "name", .int b])) := Ext.new nt
      have hT : SqT K (upd H115 t (.tup [.str "name", .int b])) t [.str "name", .int b] := SqT.of upd_same
      replace R := R.ext0 (Ext.new (o := (.tup [.str "name", .int b])) nt)
      replace X := X.trans x2
      replace g12 := g12.ext x2
      replace gx := gx.ext x2
      have gn : Gives K (upd H115 t (.tup [.str "name", .int b])) 1 1 S4 (.ref t) := gives_nam hT bb.1 bb.2 (.inr (.inr (.inl rfl)))
      clear hT x2
      generalize upd H115 t (.tup [.str "name", .int b]) = H116 at R X gn g12 gx ⊢
      generalize V.ref t = vn at gn ⊢
      clear nt
      walk_at "rd"
      intro t nt
      have x2 : Ext [r] H116 (upd H116 t (.tup [.str "if", v12, vx, vn])) := Ext.new nt
      have hT : SqT K (upd H116 t (.tup [.str "if", v12, vx, vn])) t [.str "if", v12, vx, vn] := SqT.of upd_same
      replace R := R.ext0 (Ext.new (o := (.tup [.str "if", v12, vx, vn])) nt)
      replace X := X.trans x2
      replace g12 := g12.ext x2
      replace gx := gx.ext x2
      replace gn := gn.ext x2
      have gi : Gives K (upd H116 t (.tup [.str "if", v12, vx, vn])) 3 6 S4 (.ref t) := (gives_if hT g12 gx gn).mono (by decide) (by decide) fun _ z => z
      clear hT x2
      generalize upd H116 t (.tup [.str "if", v12, vx, vn]) = H117 at R X gi g12 gx gn ⊢
      generalize V.ref t = vi at gi ⊢
      clear nt
      clear g12
      clear gx
      clear gn
      walk_at "rd"
      intro t nt
      have x2 : Ext [r] H117 (upd H117 t (.tup [.str "name", .int a])) := Ext.new nt
      have hT : SqT K (upd H117 t (.tup [.str "name", .int a])) t [.str "name", .int a] := SqT.of upd_same
      replace R := R.ext0 (Ext.new (o := (.tup [.str "name", .int a])) nt)
      replace X := X.trans x2
      replace gi := gi.ext x2
      have ga : Gives K (upd H117 t (.tup [.str "name", .int a])) 1 1 S3 (.ref t) := gives_nam hT ba.1 ba.2 (.inr (.inr (.inl rfl)))
      clear hT x2
      generalize upd H117 t (.tup [.str "name", .int a]) = H118 at R X ga gi ⊢
      generalize V.ref t = va at ga ⊢
      clear nt
      walk_at "rd"
      intro t nt
      have x2 : Ext [r] H118 (upd H118 t (.tup [.str "num", .int 1])) := Ext.new nt
      have hT : SqT K (upd H118 t (.tup [.str "num", .int 1])) t [.str "num", .int 1] := SqT.of upd_same
      replace R := R.ext0 (Ext.new (o := (.tup [.str "num", .int 1])) nt)
      replace X := X.trans x2
      replace gi := gi.ext x2
      replace ga := ga.ext x2
      have g1 : Gives K (upd H118 t (.tup [.str "num", .int 1])) 1 1 S3 (.ref t) := gives_num hT (by decide) (by decide)
      clear hT x2
      generalize upd H118 t (.tup [.str "num", .int 1]) = H119 at R X g1 gi ga ⊢
      generalize V.ref t = v1 at g1 ⊢
      clear nt
      walk_at "rd"
      intro t nt
      have x2 : Ext [r] H119 (upd H119 t (.tup [.str "plus", va, v1])) := Ext.new nt
      have hT : SqT K (upd H119 t (.tup [.str "plus", va, v1])) t [.str "plus", va, v1] := SqT.of upd_same
      replace R := R.ext0 (Ext.new (o := (.tup [.str "plus", va, v1])) nt)
      replace X := X.trans x2
      replace gi := gi.ext x2
      replace ga := ga.ext x2
      replace g1 := g1.ext x2
      have gp : Gives K (upd H119 t (.tup [.str "plus", va, v1])) 2 3 S3 (.ref t) := (gives_plus hT ga g1).mono (by decide) (by decide) fun _ z => z
      clear hT x2
      generalize upd H119 t (.tup [.str "plus", va, v1]) = H120 at R X gp gi ga g1 ⊢
      generalize V.ref t = vp at gp ⊢
      clear nt
      clear ga
      clear g1
      walk_at "rd"
      intro t nt
      have x2 : Ext [r] H120 (upd H120 t (.tup [.str "let", .int xx, vp, vi])) := Ext.new nt
      have hT : SqT K (upd H120 t (.tup [.str "let", .int xx, vp, vi])) t [.str "let", .int xx, vp, vi] := SqT.of upd_same
      replace R := R.ext0 (Ext.new (o := (.tup [.str "let", .int xx, vp, vi])) nt)
      replace X := X.trans x2
      replace gi := gi.ext x2
      replace gp := gp.ext x2
      have gl : Gives K (upd H120 t (.tup [.str "let", .int xx, vp, vi])) 4 10 S3 (.ref t) := (gives_let hT bx.1 bx.2 gp gi).mono (by decide) (by decide) fun _ z => z
      clear hT x2
      generalize upd H120 t (.tup [.str "let", .int xx, vp, vi]) = H121 at R X gl gi gp ⊢
      generalize V.ref t = vl at gl ⊢
      clear nt
      clear gp
      clear gi
      exact rest2 [some (.ref r), some (.int far), some (.int a), some (.int b), some (.int c), some (.int mk), some (.int on), some (.int tw), some (.int xx), none, some vl, none, none, none, none] H121 ⟨vl, rfl, R, X, gl⟩
    · exact rest2 [some (.ref r), some (.int far), some (.int a), some (.int b), some (.int c), some (.int mk), some (.int on), some (.int tw), some (.int xx), none, some vb, none, none, none, none] _ ⟨vb, rfl, R, X, gb⟩
  case rest2 =>
    clear gb R X vb
    rintro σ' HB ⟨vb, rfl, R, X, gb⟩
    walk_at "rd"
    intro t nt
    have x2 : Ext [r] HB (upd HB t (.tup [.str "fun", .int c, vb])) := Ext.new nt
    have hT : SqT K (upd HB t (.tup [.str "fun", .int c, vb])) t [.str "fun", .int c, vb] := SqT.of upd_same
    replace R := R.ext0 (Ext.new (o := (.tup [.str "fun", .int c, vb])) nt)
    replace X := X.trans x2
    replace gb := gb.ext x2
    have k1 : Gives K (upd HB t (.tup [.str "fun", .int c, vb])) 5 11 S2 (.ref t) := (gives_fun hT bc.1 bc.2 gb).mono (by decide) (by decide) fun _ z => z
    clear hT x2
    generalize upd HB t (.tup [.str "fun", .int c, vb]) = H122 at R X k1 gb ⊢
    generalize V.ref t = m1 at k1 ⊢
    clear nt
    clear gb
    walk_at "rd"
    intro t nt
    have x2 : Ext [r] H122 (upd H122 t (.tup [.str "fun", .int b, m1])) := Ext.new nt
    have hT : SqT K (upd H122 t (.tup [.str "fun", .int b, m1])) t [.str "fun", .int b, m1] := SqT.of upd_same
    replace R := R.ext0 (Ext.new (o := (.tup [.str "fun", .int b, m1])) nt)
    replace X := X.trans x2
    replace k1 := k1.ext x2
    have k2 : Gives K (upd H122 t (.tup [.str "fun", .int b, m1])) 6 12 S1 (.ref t) := (gives_fun hT bb.1 bb.2 k1).mono (by decide) (by decide) fun _ z => z
    clear hT x2
    generalize upd H122 t (.tup [.str "fun", .int b, m1]) = H123 at R X k2 k1 ⊢
    generalize V.ref t = m2 at k2 ⊢
    clear nt
    clear k1
    walk_at "rd"
    intro t nt
    have x2 : Ext [r] H123 (upd H123 t (.tup [.str "fun", .int a, m2])) := Ext.new nt
    have hT : SqT K (upd H123 t (.tup [.str "fun", .int a, m2])) t [.str "fun", .int a, m2] := SqT.of upd_same
    replace R := R.ext0 (Ext.new (o := (.tup [.str "fun", .int a, m2])) nt)
    replace X := X.trans x2
    replace k2 := k2.ext x2
    have k3 : Gives K (upd H123 t (.tup [.str "fun", .int a, m2])) 7 13 (fun _ => False) (.ref t) := (gives_fun hT ba.1 ba.2 k2).mono (by decide) (by decide) fun _ z => z
    clear hT x2
    generalize upd H123 t (.tup [.str "fun", .int a, m2]) = H124 at R X k3 k2 ⊢
    generalize V.ref t = m3 at k3 ⊢
    clear nt
    clear k2
    walk_at "rd"
    intro L nl
    have x2 : Ext [r] H124 (upd H124 L (.lst [])) := Ext.new nl
    have n_h_L : L ≠ r := R.ne_new nl
    have s_L : Off K s L := R.off nl
    have o_L : H L = none := X.fresh1 R nl
    have h_L : upd H124 L (.lst []) L = some (.lst []) := upd_same
    replace R := R.ext0 (Ext.new (o := (.lst [])) nl)
    replace X := X.trans x2
    replace k3 := k3.ext x2
    clear x2
    generalize upd H124 L (.lst []) = H125 at R X h_L k3 ⊢
    clear nl
    walk_at "rd"
    refine for_range (lo := 0) (n := 2) (fun i σ H' => ∃ (zs : List V) (o : Option V), RowAt K r s H' ∧ Ext [r] H H' ∧ Gives K H' 7 13 (fun _ => False) m3 ∧ H' L = some (.lst zs) ∧ zs.length = i ∧ (∀ v ∈ zs, Gives K H' 3 5 (fun j => j = mk) v) ∧
      σ = [some (.ref r), some (.int far), some (.int a), some (.int b), some (.int c), some (.int mk), some (.int on), some (.int tw), some (.int xx), o, some vb, some m3, some (.ref L), none, none])
      ⟨[], _, R, X, k3, h_L, rfl, fun _ z => (nomatch z), rfl⟩ ?_ ?_
    · rintro i σ H1 hi ⟨zs, o, R, X, k3, h_L, hz, hg, rfl⟩
      have hgz : (∀ v ∈ zs, Gives K H1 3 5 (fun j => j = mk) v) ∧ True := ⟨hg, trivial⟩
      have X0 := Ext.refl [r] H1
      clear hg
      walk_at "rd"
      intro t nt
      have x2 : Ext [r] H1 (upd H1 t (.tup [.str "name", .int mk])) := Ext.new nt
      have hT : SqT K (upd H1 t (.tup [.str "name", .int mk])) t [.str "name", .int mk] := SqT.of upd_same
      replace R := R.ext0 (Ext.new (o := (.tup [.str "name", .int mk])) nt)
      replace X := X.trans x2
      replace X0 := X0.trans x2
      replace k3 := k3.ext x2
      replace h_L := x2.lst (not_in_one n_h_L) h_L
      have p1 : Gives K (upd H1 t (.tup [.str "name", .int mk])) 1 1 (fun j => j = mk) (.ref t) := gives_nam hT bm.1 bm.2 rfl
      clear hT x2
      generalize upd H1 t (.tup [.str "name", .int mk]) = H126 at R X p1 X0 k3 h_L ⊢
      generalize V.ref t = u1 at p1 ⊢
      clear nt
      walk_at "rd"
      refine ⟨r, s, 3, rfl, R, by decide, by decide, fun d1 H127 d1_0 d1_1 R2 x2 => ?_⟩
      replace R := R2
      replace X := X.trans x2
      replace X0 := X0.trans x2
      replace k3 := k3.ext x2
      replace p1 := p1.ext x2
      replace h_L := x2.lst (not_in_one n_h_L) h_L
      clear R2 x2
      walk_at "rd"
      intro t nt
      have x2 : Ext [r] H127 (upd H127 t (.tup [.str "num", .int d1])) := Ext.new nt
      have hT : SqT K (upd H127 t (.tup [.str "num", .int d1])) t [.str "num", .int d1] := SqT.of upd_same
      replace R := R.ext0 (Ext.new (o := (.tup [.str "num", .int d1])) nt)
      replace X := X.trans x2
      replace X0 := X0.trans x2
      replace k3 := k3.ext x2
      replace p1 := p1.ext x2
      replace h_L := x2.lst (not_in_one n_h_L) h_L
      have p2 : Gives K (upd H127 t (.tup [.str "num", .int d1])) 1 1 (fun j => j = mk) (.ref t) := gives_num hT d1_0 (by omega)
      clear hT x2
      generalize upd H127 t (.tup [.str "num", .int d1]) = H128 at R X p2 X0 k3 p1 h_L ⊢
      generalize V.ref t = u2 at p2 ⊢
      clear nt
      walk_at "rd"
      intro t nt
      have x2 : Ext [r] H128 (upd H128 t (.tup [.str "call", u1, u2])) := Ext.new nt
      have hT : SqT K (upd H128 t (.tup [.str "call", u1, u2])) t [.str "call", u1, u2] := SqT.of upd_same
      replace R := R.ext0 (Ext.new (o := (.tup [.str "call", u1, u2])) nt)
      replace X := X.trans x2
      replace X0 := X0.trans x2
      replace k3 := k3.ext x2
      replace p1 := p1.ext x2
      replace p2 := p2.ext x2
      replace h_L := x2.lst (not_in_one n_h_L) h_L
      have p3 : Gives K (upd H128 t (.tup [.str "call", u1, u2])) 2 3 (fun j => j = mk) (.ref t) := (gives_call hT p1 p2).mono (by decide) (by decide) fun _ z => z
      clear hT x2
      generalize upd H128 t (.tup [.str "call", u1, u2]) = H129 at R X p3 X0 k3 p1 p2 h_L ⊢
      generalize V.ref t = u3 at p3 ⊢
      clear nt
      clear p1
      clear p2
      walk_at "rd"
      refine ⟨r, s, 9, rfl, R, by decide, by decide, fun d2 H130 d2_0 d2_1 R2 x2 => ?_⟩
      replace R := R2
      replace X := X.trans x2
      replace X0 := X0.trans x2
      replace k3 := k3.ext x2
      replace p3 := p3.ext x2
      replace h_L := x2.lst (not_in_one n_h_L) h_L
      clear R2 x2
      walk_at "rd"
      intro t nt
      have x2 : Ext [r] H130 (upd H130 t (.tup [.str "num", .int d2])) := Ext.new nt
      have hT : SqT K (upd H130 t (.tup [.str "num", .int d2])) t [.str "num", .int d2] := SqT.of upd_same
      replace R := R.ext0 (Ext.new (o := (.tup [.str "num", .int d2])) nt)
      replace X := X.trans x2
      replace X0 := X0.trans x2
      replace k3 := k3.ext x2
      replace p3 := p3.ext x2
      replace h_L := x2.lst (not_in_one n_h_L) h_L
      have p4 : Gives K (upd H130 t (.tup [.str "num", .int d2])) 1 1 (fun j => j = mk) (.ref t) := gives_num hT d2_0 (by omega)
      clear hT x2
      generalize upd H130 t (.tup [.str "num", .int d2]) = H131 at R X p4 X0 k3 p3 h_L ⊢
      generalize V.ref t = u4 at p4 ⊢
      clear nt
      walk_at "rd"
      intro t nt
      have x2 : Ext [r] H131 (upd H131 t (.tup [.str "call", u3, u4])) := Ext.new nt
      have hT : SqT K (upd H131 t (.tup [.str "call", u3, u4])) t [.str "call", u3, u4] := SqT.of upd_same
      replace R := R.ext0 (Ext.new (o := (.tup [.str "call", u3, u4])) nt)
      replace X := X.trans x2
      replace X0 := X0.trans x2
      replace k3 := k3.ext x2
      replace p3 := p3.ext x2
      replace p4 := p4.ext x2
      replace h_L := x2.lst (not_in_one n_h_L) h_L
      have p5 : Gives K (upd H131 t (.tup [.str "call", u3, u4])) 3 5 (fun j => j = mk) (.ref t) := (gives_call hT p3 p4).mono (by decide) (by decide) fun _ z => z
      clear hT x2
      generalize upd H131 t (.tup [.str "call", u3, u4]) = H132 at R X p5 X0 k3 p3 p4 h_L ⊢
      generalize V.ref t = u5 at p5 ⊢
      clear nt
      clear p3
      clear p4
      walk_at "rd"
      refine ⟨_, _, _, rfl, rfl, h_L, small1000 (by omega), ?_⟩
      have x2 : Ext [L] H132 (upd H132 L (.lst (zs ++ [u5]))) := Ext.put h_L (List.mem_singleton.mpr rfl)
      have x3 : Ext [r] H (upd H132 L (.lst (zs ++ [u5]))) := X.mut o_L
      refine ⟨zs ++ [u5], some (.int (0 + (i : Int))), R.ext1 x2 n_h_L s_L, x3, k3.ext x2, upd_same, by rw [List.length_append, hz]; rfl, fun v hv => ?_, rfl⟩
      rcases List.mem_append.mp hv with hv | hv
      · exact ((hgz.1 v hv).ext X0).ext x2
      · rw [List.mem_singleton.mp hv]
        exact p5.ext x2
    · rintro σ H1 ⟨zs, o, R, X, k3, h_L, hz, hg, rfl⟩
      obtain ⟨s1, s2, rfl⟩ : ∃ s1 s2, zs = [s1, s2] := by
        match zs, hz with
        | [s1, s2], _ => exact ⟨s1, s2, rfl⟩
      have y1 := hg s1 (List.mem_cons_self)
      have y2 := hg s2 (List.mem_cons_of_mem _ (List.mem_cons_self))
      clear hg hz
      let Z1 : Int → Prop := fun j => j = mk ∨ False
      let Z2 : Int → Prop := fun j => j = on ∨ Z1 j
      let Z3 : Int → Prop := fun j => j = tw ∨ Z2 j
      let Z4 : Int → Prop := fun j => j = xx ∨ Z3 j
      replace y1 := y1.mono (S' := Z1) (Nat.le_refl _) (Nat.le_refl _) fun _ z => .inl z
      replace y2 := y2.mono (S' := Z2) (Nat.le_refl _) (Nat.le_refl _) fun _ z => .inr (.inl z)
      walk_at "rd"
      intro t nt
      have x2 : Ext [r] H1 (upd H1 t (.tup [.str "name", .int on])) := Ext.new nt
      have hT : SqT K (upd H1 t (.tup [.str "name", .int on])) t [.str "name", .int on] := SqT.of upd_same
      replace R := R.ext0 (Ext.new (o := (.tup [.str "name", .int on])) nt)
      replace X := X.trans x2
      replace k3 := k3.ext x2
      replace y1 := y1.ext x2
      replace y2 := y2.ext x2
      replace h_L := x2.lst (not_in_one n_h_L) h_L
      have gn_A : Gives K (upd H1 t (.tup [.str "name", .int on])) 1 1 Z3 (.ref t) := gives_nam hT bo.1 bo.2 (.inr (.inl rfl))
      clear hT x2
      generalize upd H1 t (.tup [.str "name", .int on]) = H133 at R X gn_A k3 y1 y2 h_L ⊢
      generalize V.ref t = n_A at gn_A ⊢
      clear nt
      walk_at "rd"
      refine ⟨r, s, 3, rfl, R, by decide, by decide, fun e_A H134 e_A_0 e_A_1 R2 x2 => ?_⟩
      replace R := R2
      replace X := X.trans x2
      replace k3 := k3.ext x2
      replace y1 := y1.ext x2
      replace y2 := y2.ext x2
      replace gn_A := gn_A.ext x2
      replace h_L := x2.lst (not_in_one n_h_L) h_L
      clear R2 x2
      walk_at "rd"
      intro t nt
      have x2 : Ext [r] H134 (upd H134 t (.tup [.str "num", .int e_A])) := Ext.new nt
      have hT : SqT K (upd H134 t (.tup [.str "num", .int e_A])) t [.str "num", .int e_A] := SqT.of upd_same
      replace R := R.ext0 (Ext.new (o := (.tup [.str "num", .int e_A])) nt)
      replace X := X.trans x2
      replace k3 := k3.ext x2
      replace y1 := y1.ext x2
      replace y2 := y2.ext x2
      replace gn_A := gn_A.ext x2
      replace h_L := x2.lst (not_in_one n_h_L) h_L
      have gi_A : Gives K (upd H134 t (.tup [.str "num", .int e_A])) 1 1 Z3 (.ref t) := gives_num hT e_A_0 (by omega)
      clear hT x2
      generalize upd H134 t (.tup [.str "num", .int e_A]) = H135 at R X gi_A k3 y1 y2 gn_A h_L ⊢
      generalize V.ref t = i_A at gi_A ⊢
      clear nt
      walk_at "rd"
      intro t nt
      have x2 : Ext [r] H135 (upd H135 t (.tup [.str "call", n_A, i_A])) := Ext.new nt
      have hT : SqT K (upd H135 t (.tup [.str "call", n_A, i_A])) t [.str "call", n_A, i_A] := SqT.of upd_same
      replace R := R.ext0 (Ext.new (o := (.tup [.str "call", n_A, i_A])) nt)
      replace X := X.trans x2
      replace k3 := k3.ext x2
      replace y1 := y1.ext x2
      replace y2 := y2.ext x2
      replace gn_A := gn_A.ext x2
      replace gi_A := gi_A.ext x2
      replace h_L := x2.lst (not_in_one n_h_L) h_L
      have gc_A : Gives K (upd H135 t (.tup [.str "call", n_A, i_A])) 2 3 Z3 (.ref t) := (gives_call hT gn_A gi_A).mono (by decide) (by decide) fun _ z => z
      clear hT x2
      generalize upd H135 t (.tup [.str "call", n_A, i_A]) = H136 at R X gc_A k3 y1 y2 gn_A gi_A h_L ⊢
      generalize V.ref t = c_A at gc_A ⊢
      clear nt
      clear gn_A
      clear gi_A
      walk_at "rd"
      intro t nt
      have x2 : Ext [r] H136 (upd H136 t (.tup [.str "name", .int tw])) := Ext.new nt
      have hT : SqT K (upd H136 t (.tup [.str "name", .int tw])) t [.str "name", .int tw] := SqT.of upd_same
      replace R := R.ext0 (Ext.new (o := (.tup [.str "name", .int tw])) nt)
      replace X := X.trans x2
      replace k3 := k3.ext x2
      replace y1 := y1.ext x2
      replace y2 := y2.ext x2
      replace gc_A := gc_A.ext x2
      replace h_L := x2.lst (not_in_one n_h_L) h_L
      have gn_B : Gives K (upd H136 t (.tup [.str "name", .int tw])) 1 1 Z3 (.ref t) := gives_nam hT bt.1 bt.2 (.inl rfl)
      clear hT x2
      generalize upd H136 t (.tup [.str "name", .int tw]) = H137 at R X gn_B k3 y1 y2 gc_A h_L ⊢
      generalize V.ref t = n_B at gn_B ⊢
      clear nt
      walk_at "rd"
      refine ⟨r, s, 3, rfl, R, by decide, by decide, fun e_B H138 e_B_0 e_B_1 R2 x2 => ?_⟩
      replace R := R2
      replace X := X.trans x2
      replace k3 := k3.ext x2
      replace y1 := y1.ext x2
      replace y2 := y2.ext x2
      replace gc_A := gc_A.ext x2
      replace gn_B := gn_B.ext x2
      replace h_L := x2.lst (not_in_one n_h_L) h_L
      clear R2 x2
      walk_at "rd"
      intro t nt
      have x2 : Ext [r] H138 (upd H138 t (.tup [.str "num", .int e_B])) := Ext.new nt
      have hT : SqT K (upd H138 t (.tup [.str "num", .int e_B])) t [.str "num", .int e_B] := SqT.of upd_same
      replace R := R.ext0 (Ext.new (o := (.tup [.str "num", .int e_B])) nt)
      replace X := X.trans x2
      replace k3 := k3.ext x2
      replace y1 := y1.ext x2
      replace y2 := y2.ext x2
      replace gc_A := gc_A.ext x2
      replace gn_B := gn_B.ext x2
      replace h_L := x2.lst (not_in_one n_h_L) h_L
      have gi_B : Gives K (upd H138 t (.tup [.str "num", .int e_B])) 1 1 Z3 (.ref t) := gives_num hT e_B_0 (by omega)
      clear hT x2
      generalize upd H138 t (.tup [.str "num", .int e_B]) = H139 at R X gi_B k3 y1 y2 gc_A gn_B h_L ⊢
      generalize V.ref t = i_B at gi_B ⊢
      clear nt
      walk_at "rd"
      intro t nt
      have x2 : Ext [r] H139 (upd H139 t (.tup [.str "call", n_B, i_B])) := Ext.new nt
      have hT : SqT K (upd H139 t (.tup [.str "call", n_B, i_B])) t [.str "call", n_B, i_B] := SqT.of upd_same
      replace R := R.ext0 (Ext.new (o := (.tup [.str "call", n_B, i_B])) nt)
      replace X := X.trans x2
      replace k3 := k3.ext x2
      replace y1 := y1.ext x2
      replace y2 := y2.ext x2
      replace gc_A := gc_A.ext x2
      replace gn_B := gn_B.ext x2
      replace gi_B := gi_B.ext x2
      replace h_L := x2.lst (not_in_one n_h_L) h_L
      have gc_B : Gives K (upd H139 t (.tup [.str "call", n_B, i_B])) 2 3 Z3 (.ref t) := (gives_call hT gn_B gi_B).mono (by decide) (by decide) fun _ z => z
      clear hT x2
      generalize upd H139 t (.tup [.str "call", n_B, i_B]) = H140 at R X gc_B k3 y1 y2 gc_A gn_B gi_B h_L ⊢
      generalize V.ref t = c_B at gc_B ⊢
      clear nt
      clear gn_B
      clear gi_B
      walk_at "rd"
      intro LC nl
      have x2 : Ext [r] H140 (upd H140 LC (.lst [c_A, c_B])) := Ext.new nl
      have n_h_LC : LC ≠ r := R.ne_new nl
      have s_LC : Off K s LC := R.off nl
      have o_LC : H LC = none := X.fresh1 R nl
      have h_LC : upd H140 LC (.lst [c_A, c_B]) LC = some (.lst [c_A, c_B]) := upd_same
      replace R := R.ext0 (Ext.new (o := (.lst [c_A, c_B])) nl)
      replace X := X.trans x2
      replace k3 := k3.ext x2
      replace y1 := y1.ext x2
      replace y2 := y2.ext x2
      replace gc_A := gc_A.ext x2
      replace gc_B := gc_B.ext x2
      replace h_L := x2.lst (not_in_one n_h_L) h_L
      clear x2
      generalize upd H140 LC (.lst [c_A, c_B]) = H141 at R X h_LC k3 y1 y2 gc_A gc_B h_L ⊢
      clear nl
      walk_at "rd"
      intro t nt
      have x2 : Ext [r] H141 (upd H141 t (.tup [.str "plus", c_A, c_B])) := Ext.new nt
      have hT : SqT K (upd H141 t (.tup [.str "plus", c_A, c_B])) t [.str "plus", c_A, c_B] := SqT.of upd_same
      replace R := R.ext0 (Ext.new (o := (.tup [.str "plus", c_A, c_B])) nt)
      replace X := X.trans x2
      replace k3 := k3.ext x2
      replace y1 := y1.ext x2
      replace y2 := y2.ext x2
      replace gc_A := gc_A.ext x2
      replace gc_B := gc_B.ext x2
      replace h_L := x2.lst (not_in_one n_h_L) h_L
      replace h_LC := x2.lst (not_in_one n_h_LC) h_LC
      have gw1 : Gives K (upd H141 t (.tup [.str "plus", c_A, c_B])) 3 7 Z3 (.ref t) := (gives_plus hT gc_A gc_B).mono (by decide) (by decide) fun _ z => z
      clear hT x2
      generalize upd H141 t (.tup [.str "plus", c_A, c_B]) = H142 at R X gw1 k3 y1 y2 gc_A gc_B h_L h_LC ⊢
      generalize V.ref t = w1 at gw1 ⊢
      clear nt
      walk_at "rd"
      intro t nt
      have x2 : Ext [r] H142 (upd H142 t (.tup [.str "plus", c_A, w1])) := Ext.new nt
      have hT : SqT K (upd H142 t (.tup [.str "plus", c_A, w1])) t [.str "plus", c_A, w1] := SqT.of upd_same
      replace R := R.ext0 (Ext.new (o := (.tup [.str "plus", c_A, w1])) nt)
      replace X := X.trans x2
      replace k3 := k3.ext x2
      replace y1 := y1.ext x2
      replace y2 := y2.ext x2
      replace gc_A := gc_A.ext x2
      replace gc_B := gc_B.ext x2
      replace gw1 := gw1.ext x2
      replace h_L := x2.lst (not_in_one n_h_L) h_L
      replace h_LC := x2.lst (not_in_one n_h_LC) h_LC
      have gw2 : Gives K (upd H142 t (.tup [.str "plus", c_A, w1])) 4 11 Z3 (.ref t) := (gives_plus hT gc_A gw1).mono (by decide) (by decide) fun _ z => z
      clear hT x2
      generalize upd H142 t (.tup [.str "plus", c_A, w1]) = H143 at R X gw2 k3 y1 y2 gc_A gc_B gw1 h_L h_LC ⊢
      generalize V.ref t = w2 at gw2 ⊢
      clear nt
      walk_at "rd"
      intro t nt
      have x2 : Ext [r] H143 (upd H143 t (.tup [.str "name", .int on])) := Ext.new nt
      have hT : SqT K (upd H143 t (.tup [.str "name", .int on])) t [.str "name", .int on] := SqT.of upd_same
      replace R := R.ext0 (Ext.new (o := (.tup [.str "name", .int on])) nt)
      replace X := X.trans x2
      replace k3 := k3.ext x2
      replace y1 := y1.ext x2
      replace y2 := y2.ext x2
      replace gc_A := gc_A.ext x2
      replace gc_B := gc_B.ext x2
      replace gw1 := gw1.ext x2
      replace gw2 := gw2.ext x2
      replace h_L := x2.lst (not_in_one n_h_L) h_L
      replace h_LC := x2.lst (not_in_one n_h_LC) h_LC
      have gw3 : Gives K (upd H143 t (.tup [.str "name", .int on])) 1 1 Z3 (.ref t) := gives_nam hT bo.1 bo.2 (.inr (.inl rfl))
      clear hT x2
      generalize upd H143 t (.tup [.str "name", .int on]) = H144 at R X gw3 k3 y1 y2 gc_A gc_B gw1 gw2 h_L h_LC ⊢
      generalize V.ref t = w3 at gw3 ⊢
      clear nt
      walk_at "rd"
      intro t nt
      have x2 : Ext [r] H144 (upd H144 t (.tup [.str "name", .int tw])) := Ext.new nt
      have hT : SqT K (upd H144 t (.tup [.str "name", .int tw])) t [.str "name", .int tw] := SqT.of upd_same
      replace R := R.ext0 (Ext.new (o := (.tup [.str "name", .int tw])) nt)
      replace X := X.trans x2
      replace k3 := k3.ext x2
      replace y1 := y1.ext x2
      replace y2 := y2.ext x2
      replace gc_A := gc_A.ext x2
      replace gc_B := gc_B.ext x2
      replace gw1 := gw1.ext x2
      replace gw2 := gw2.ext x2
      replace gw3 := gw3.ext x2
      replace h_L := x2.lst (not_in_one n_h_L) h_L
      replace h_LC := x2.lst (not_in_one n_h_LC) h_LC
      have gw4 : Gives K (upd H144 t (.tup [.str "name", .int tw])) 1 1 Z3 (.ref t) := gives_nam hT bt.1 bt.2 (.inl rfl)
      clear hT x2
      generalize upd H144 t (.tup [.str "name", .int tw]) = H145 at R X gw4 k3 y1 y2 gc_A gc_B gw1 gw2 gw3 h_L h_LC ⊢
      generalize V.ref t = w4 at gw4 ⊢
      clear nt
      walk_at "rd"
      intro LL nl
      have x2 : Ext [r] H145 (upd H145 LL (.lst [c_A, w2, w3, w4])) := Ext.new nl
      have n_h_LL : LL ≠ r := R.ne_new nl
      have s_LL : Off K s LL := R.off nl
      have o_LL : H LL = none := X.fresh1 R nl
      have h_LL : upd H145 LL (.lst [c_A, w2, w3, w4]) LL = some (.lst [c_A, w2, w3, w4]) := upd_same
      replace R := R.ext0 (Ext.new (o := (.lst [c_A, w2, w3, w4])) nl)
      replace X := X.trans x2
      replace k3 := k3.ext x2
      replace y1 := y1.ext x2
      replace y2 := y2.ext x2
      replace gc_A := gc_A.ext x2
      replace gc_B := gc_B.ext x2
      replace gw1 := gw1.ext x2
      replace gw2 := gw2.ext x2
      replace gw3 := gw3.ext x2
      replace gw4 := gw4.ext x2
      replace h_L := x2.lst (not_in_one n_h_L) h_L
      replace h_LC := x2.lst (not_in_one n_h_LC) h_LC
      clear x2
      generalize upd H145 LL (.lst [c_A, w2, w3, w4]) = H146 at R X h_LL k3 y1 y2 gc_A gc_B gw1 gw2 gw3 gw4 h_L h_LC ⊢
      clear nl
      have gcA := gc_A
      clear gc_A
      clear gc_B
      clear h_LC
      walk_at "rd"
      intro t nt
      have x2 : Ext [r] H146 (upd H146 t (.tup [.str "name", .int tw])) := Ext.new nt
      have hT : SqT K (upd H146 t (.tup [.str "name", .int tw])) t [.str "name", .int tw] := SqT.of upd_same
      replace R := R.ext0 (Ext.new (o := (.tup [.str "name", .int tw])) nt)
      replace X := X.trans x2
      replace k3 := k3.ext x2
      replace y1 := y1.ext x2
      replace y2 := y2.ext x2
      replace gw1 := gw1.ext x2
      replace gw2 := gw2.ext x2
      replace gw3 := gw3.ext x2
      replace gw4 := gw4.ext x2
      replace gcA := gcA.ext x2
      replace h_L := x2.lst (not_in_one n_h_L) h_L
      replace h_LL := x2.lst (not_in_one n_h_LL) h_LL
      have ga1 : Gives K (upd H146 t (.tup [.str "name", .int tw])) 1 1 Z4 (.ref t) := gives_nam hT bt.1 bt.2 (.inr (.inl rfl))
      clear hT x2
      generalize upd H146 t (.tup [.str "name", .int tw]) = H147 at R X ga1 k3 y1 y2 gw1 gw2 gw3 gw4 gcA h_L h_LL ⊢
      generalize V.ref t = a1 at ga1 ⊢
      clear nt
      walk_at "rd"
      intro t nt
      have x2 : Ext [r] H147 (upd H147 t (.tup [.str "name", .int xx])) := Ext.new nt
      have hT : SqT K (upd H147 t (.tup [.str "name", .int xx])) t [.str "name", .int xx] := SqT.of upd_same
      replace R := R.ext0 (Ext.new (o := (.tup [.str "name", .int xx])) nt)
      replace X := X.trans x2
      replace k3 := k3.ext x2
      replace y1 := y1.ext x2
      replace y2 := y2.ext x2
      replace gw1 := gw1.ext x2
      replace gw2 := gw2.ext x2
      replace gw3 := gw3.ext x2
      replace gw4 := gw4.ext x2
      replace gcA := gcA.ext x2
      replace ga1 := ga1.ext x2
      replace h_L := x2.lst (not_in_one n_h_L) h_L
      replace h_LL := x2.lst (not_in_one n_h_LL) h_LL
      have ga2 : Gives K (upd H147 t (.tup [.str "name", .int xx])) 1 1 Z4 (.ref t) := gives_nam hT bx.1 bx.2 (.inl rfl)
      clear hT x2
      generalize upd H147 t (.tup [.str "name", .int xx]) = H148 at R X ga2 k3 y1 y2 gw1 gw2 gw3 gw4 gcA ga1 h_L h_LL ⊢
      generalize V.ref t = a2 at ga2 ⊢
      clear nt
      walk_at "rd"
      intro t nt
      have x2 : Ext [r] H148 (upd H148 t (.tup [.str "call", a1, a2])) := Ext.new nt
      have hT : SqT K (upd H148 t (.tup [.str "call", a1, a2])) t [.str "call", a1, a2] := SqT.of upd_same
      replace R := R.ext0 (Ext.new (o := (.tup [.str "call", a1, a2])) nt)
      replace X := X.trans x2
      replace k3 := k3.ext x2
      replace y1 := y1.ext x2
      replace y2 := y2.ext x2
      replace gw1 := gw1.ext x2
      replace gw2 := gw2.ext x2
      replace gw3 := gw3.ext x2
      replace gw4 := gw4.ext x2
      replace gcA := gcA.ext x2
      replace ga1 := ga1.ext x2
      replace ga2 := ga2.ext x2
      replace h_L := x2.lst (not_in_one n_h_L) h_L
      replace h_LL := x2.lst (not_in_one n_h_LL) h_LL
      have ga3 : Gives K (upd H148 t (.tup [.str "call", a1, a2])) 2 3 Z4 (.ref t) := (gives_call hT ga1 ga2).mono (by decide) (by decide) fun _ z => z
      clear hT x2
      generalize upd H148 t (.tup [.str "call", a1, a2]) = H149 at R X ga3 k3 y1 y2 gw1 gw2 gw3 gw4 gcA ga1 ga2 h_L h_LL ⊢
      generalize V.ref t = a3 at ga3 ⊢
      clear nt
      clear ga1
      clear ga2
      walk_at "rd"
      intro t nt
      have x2 : Ext [r] H149 (upd H149 t (.tup [.str "name", .int on])) := Ext.new nt
      have hT : SqT K (upd H149 t (.tup [.str "name", .int on])) t [.str "name", .int on] := SqT.of upd_same
      replace R := R.ext0 (Ext.new (o := (.tup [.str "name", .int on])) nt)
      replace X := X.trans x2
      replace k3 := k3.ext x2
      replace y1 := y1.ext x2
      replace y2 := y2.ext x2
      replace gw1 := gw1.ext x2
      replace gw2 := gw2.ext x2
      replace gw3 := gw3.ext x2
      replace gw4 := gw4.ext x2
      replace gcA := gcA.ext x2
      replace ga3 := ga3.ext x2
      replace h_L := x2.lst (not_in_one n_h_L) h_L
      replace h_LL := x2.lst (not_in_one n_h_LL) h_LL
      have gb1 : Gives K (upd H149 t (.tup [.str "name", .int on])) 1 1 Z4 (.ref t) := gives_nam hT bo.1 bo.2 (.inr (.inr (.inl rfl)))
      clear hT x2
      generalize upd H149 t (.tup [.str "name", .int on]) = H150 at R X gb1 k3 y1 y2 gw1 gw2 gw3 gw4 gcA ga3 h_L h_LL ⊢
      generalize V.ref t = b1 at gb1 ⊢
      clear nt
      walk_at "rd"
      intro t nt
      have x2 : Ext [r] H150 (upd H150 t (.tup [.str "name", .int xx])) := Ext.new nt
      have hT : SqT K (upd H150 t (.tup [.str "name", .int xx])) t [.str "name", .int xx] := SqT.of upd_same
      replace R := R.ext0 (Ext.new (o := (.tup [.str "name", .int xx])) nt)
      replace X := X.trans x2
      replace k3 := k3.ext x2
      replace y1 := y1.ext x2
      replace y2 := y2.ext x2
      replace gw1 := gw1.ext x2
      replace gw2 := gw2.ext x2
      replace gw3 := gw3.ext x2
      replace gw4 := gw4.ext x2
      replace gcA := gcA.ext x2
      replace ga3 := ga3.ext x2
      replace gb1 := gb1.ext x2
      replace h_L := x2.lst (not_in_one n_h_L) h_L
      replace h_LL := x2.lst (not_in_one n_h_LL) h_LL
      have gb2 : Gives K (upd H150 t (.tup [.str "name", .int xx])) 1 1 Z4 (.ref t) := gives_nam hT bx.1 bx.2 (.inl rfl)
      clear hT x2
      generalize upd H150 t (.tup [.str "name", .int xx]) = H151 at R X gb2 k3 y1 y2 gw1 gw2 gw3 gw4 gcA ga3 gb1 h_L h_LL ⊢
      generalize V.ref t = b2 at gb2 ⊢
      clear nt
      walk_at "rd"
      intro t nt
      have x2 : Ext [r] H151 (upd H151 t (.tup [.str "call", b1, b2])) := Ext.new nt
      have hT : SqT K (upd H151 t (.tup [.str "call", b1, b2])) t [.str "call", b1, b2] := SqT.of upd_same
      replace R := R.ext0 (Ext.new (o := (.tup [.str "call", b1, b2])) nt)
      replace X := X.trans x2
      replace k3 := k3.ext x2
      replace y1 := y1.ext x2
      replace y2 := y2.ext x2
      replace gw1 := gw1.ext x2
      replace gw2 := gw2.ext x2
      replace gw3 := gw3.ext x2
      replace gw4 := gw4.ext x2
      replace gcA := gcA.ext x2
      replace ga3 := ga3.ext x2
      replace gb1 := gb1.ext x2
      replace gb2 := gb2.ext x2
      replace h_L := x2.lst (not_in_one n_h_L) h_L
      replace h_LL := x2.lst (not_in_one n_h_LL) h_LL
      have gb3 : Gives K (upd H151 t (.tup [.str "call", b1, b2])) 2 3 Z4 (.ref t) := (gives_call hT gb1 gb2).mono (by decide) (by decide) fun _ z => z
      clear hT x2
      generalize upd H151 t (.tup [.str "call", b1, b2]) = H152 at R X gb3 k3 y1 y2 gw1 gw2 gw3 gw4 gcA ga3 gb1 gb2 h_L h_LL ⊢
      generalize V.ref t = b3 at gb3 ⊢
      clear nt
      clear gb1
      clear gb2
      walk_at "rd"
      intro t nt
      have x2 : Ext [r] H152 (upd H152 t (.tup [.str "plus", a3, b3])) := Ext.new nt
      have hT : SqT K (upd H152 t (.tup [.str "plus", a3, b3])) t [.str "plus", a3, b3] := SqT.of upd_same
      replace R := R.ext0 (Ext.new (o := (.tup [.str "plus", a3, b3])) nt)
      replace X := X.trans x2
      replace k3 := k3.ext x2
      replace y1 := y1.ext x2
      replace y2 := y2.ext x2
      replace gw1 := gw1.ext x2
      replace gw2 := gw2.ext x2
      replace gw3 := gw3.ext x2
      replace gw4 := gw4.ext x2
      replace gcA := gcA.ext x2
      replace ga3 := ga3.ext x2
      replace gb3 := gb3.ext x2
      replace h_L := x2.lst (not_in_one n_h_L) h_L
      replace h_LL := x2.lst (not_in_one n_h_LL) h_LL
      have ga4 : Gives K (upd H152 t (.tup [.str "plus", a3, b3])) 3 7 Z4 (.ref t) := (gives_plus hT ga3 gb3).mono (by decide) (by decide) fun _ z => z
      clear hT x2
      generalize upd H152 t (.tup [.str "plus", a3, b3]) = H153 at R X ga4 k3 y1 y2 gw1 gw2 gw3 gw4 gcA ga3 gb3 h_L h_LL ⊢
      generalize V.ref t = a4 at ga4 ⊢
      clear nt
      clear ga3
      clear gb3
      walk_at "rd"
      intro t nt
      have x2 : Ext [r] H153 (upd H153 t (.tup [.str "fun", .int xx, a4])) := Ext.new nt
      have hT : SqT K (upd H153 t (.tup [.str "fun", .int xx, a4])) t [.str "fun", .int xx, a4] := SqT.of upd_same
      replace R := R.ext0 (Ext.new (o := (.tup [.str "fun", .int xx, a4])) nt)
      replace X := X.trans x2
      replace k3 := k3.ext x2
      replace y1 := y1.ext x2
      replace y2 := y2.ext x2
      replace gw1 := gw1.ext x2
      replace gw2 := gw2.ext x2
      replace gw3 := gw3.ext x2
      replace gw4 := gw4.ext x2
      replace gcA := gcA.ext x2
      replace ga4 := ga4.ext x2
      replace h_L := x2.lst (not_in_one n_h_L) h_L
      replace h_LL := x2.lst (not_in_one n_h_LL) h_LL
      have gw5 : Gives K (upd H153 t (.tup [.str "fun", .int xx, a4])) 4 8 Z3 (.ref t) := (gives_fun hT bx.1 bx.2 ga4).mono (by decide) (by decide) fun _ z => z
      clear hT x2
      generalize upd H153 t (.tup [.str "fun", .int xx, a4]) = H154 at R X gw5 k3 y1 y2 gw1 gw2 gw3 gw4 gcA ga4 h_L h_LL ⊢
      generalize V.ref t = w5 at gw5 ⊢
      clear nt
      clear ga4
      walk_at "rd"
      refine ⟨_, _, _, rfl, rfl, h_LL, small1000 (by show 4 ≤ 1000; decide), ?_⟩
      have nLL : L ≠ LL := fun z => by
        rw [z, h_LL] at h_L
        cases h_L
      have x2 : Ext [LL] H154 (upd H154 LL (.lst ([c_A, w2, w3, w4] ++ [w5]))) := Ext.put h_LL (List.mem_singleton.mpr rfl)
      have h_M : upd H154 LL (.lst ([c_A, w2, w3, w4] ++ [w5])) LL = some (.lst [c_A, w2, w3, w4, w5]) := upd_same
      replace X : Ext [r] H (upd H154 LL (.lst ([c_A, w2, w3, w4] ++ [w5]))) := X.mut o_LL
      replace R := R.ext1 x2 n_h_LL s_LL
      replace h_L := x2.lst (not_in_one nLL) h_L
      replace k3 := k3.ext x2
      replace y1 := y1.ext x2
      replace y2 := y2.ext x2
      replace gw1 := gw1.ext x2
      replace gw2 := gw2.ext x2
      replace gw3 := gw3.ext x2
      replace gw4 := gw4.ext x2
      replace gcA := gcA.ext x2
      replace gw5 := gw5.ext x2
      clear x2 h_LL
      generalize upd H154 LL (.lst ([c_A, w2, w3, w4] ++ [w5])) = HM at R X h_M h_L k3 y1 y2 gw1 gw2 gw3 gw4 gcA gw5 ⊢
      have n_h_M := n_h_LL
      walk_at "rd"
      refine ⟨r, s, 5, rfl, R, by decide, by decide, fun pk H155 pk_0 pk_1 R2 x2 => ?_⟩
      replace R := R2
      replace X := X.trans x2
      replace k3 := k3.ext x2
      replace y1 := y1.ext x2
      replace y2 := y2.ext x2
      replace gw1 := gw1.ext x2
      replace gw2 := gw2.ext x2
      replace gw3 := gw3.ext x2
      replace gw4 := gw4.ext x2
      replace gcA := gcA.ext x2
      replace gw5 := gw5.ext x2
      replace h_L := x2.lst (not_in_one n_h_L) h_L
      replace h_M := x2.lst (not_in_one n_h_M) h_M
      clear R2 x2
      obtain ⟨lw, ml, hat⟩ := at_any (xs := [c_A, w2, w3, w4, w5]) pk_0 pk_1
      have glw : Gives K H155 4 11 Z3 lw := by
        have ml : lw = c_A ∨ lw = w2 ∨ lw = w3 ∨ lw = w4 ∨ lw = w5 := by simpa using ml
        rcases ml with rfl | rfl | rfl | rfl | rfl
        · exact gcA.mono (by decide) (by decide) fun _ z => z
        · exact gw2.mono (by decide) (by decide) fun _ z => z
        · exact gw3.mono (by decide) (by decide) fun _ z => z
        · exact gw4.mono (by decide) (by decide) fun _ z => z
        · exact gw5.mono (by decide) (by decide) fun _ z => z
      refine ⟨_, _, _, _, rfl, rfl, SqL.of h_M, hat, ?_⟩
      clear gw1
      clear gw2
      clear gw3
      clear gw4
      clear gw5
      clear gcA
      walk_at "rd"
      intro t nt
      have x2 : Ext [r] H155 (upd H155 t (.tup [.str "let", .int tw, s2, lw])) := Ext.new nt
      have hT : SqT K (upd H155 t (.tup [.str "let", .int tw, s2, lw])) t [.str "let", .int tw, s2, lw] := SqT.of upd_same
      replace R := R.ext0 (Ext.new (o := (.tup [.str "let", .int tw, s2, lw])) nt)
      replace X := X.trans x2
      replace k3 := k3.ext x2
      replace y1 := y1.ext x2
      replace y2 := y2.ext x2
      replace glw := glw.ext x2
      replace h_L := x2.lst (not_in_one n_h_L) h_L
      replace h_M := x2.lst (not_in_one n_h_M) h_M
      have go1 : Gives K (upd H155 t (.tup [.str "let", .int tw, s2, lw])) 5 17 Z2 (.ref t) := (gives_let hT bt.1 bt.2 y2 glw).mono (by decide) (by decide) fun _ z => z
      clear hT x2
      generalize upd H155 t (.tup [.str "let", .int tw, s2, lw]) = H156 at R X go1 k3 y1 y2 glw h_L h_M ⊢
      generalize V.ref t = o1 at go1 ⊢
      clear nt
      walk_at "rd"
      intro t nt
      have x2 : Ext [r] H156 (upd H156 t (.tup [.str "let", .int on, s1, o1])) := Ext.new nt
      have hT : SqT K (upd H156 t (.tup [.str "let", .int on, s1, o1])) t [.str "let", .int on, s1, o1] := SqT.of upd_same
      replace R := R.ext0 (Ext.new (o := (.tup [.str "let", .int on, s1, o1])) nt)
      replace X := X.trans x2
      replace k3 := k3.ext x2
      replace y1 := y1.ext x2
      replace y2 := y2.ext x2
      replace glw := glw.ext x2
      replace go1 := go1.ext x2
      replace h_L := x2.lst (not_in_one n_h_L) h_L
      replace h_M := x2.lst (not_in_one n_h_M) h_M
      have go2 : Gives K (upd H156 t (.tup [.str "let", .int on, s1, o1])) 6 23 Z1 (.ref t) := (gives_let hT bo.1 bo.2 y1 go1).mono (by decide) (by decide) fun _ z => z
      clear hT x2
      generalize upd H156 t (.tup [.str "let", .int on, s1, o1]) = H157 at R X go2 k3 y1 y2 glw go1 h_L h_M ⊢
      generalize V.ref t = o2 at go2 ⊢
      clear nt
      walk_at "rd"
      intro t nt
      have x2 : Ext [r] H157 (upd H157 t (.tup [.str "let", .int mk, m3, o2])) := Ext.new nt
      have hT : SqT K (upd H157 t (.tup [.str "let", .int mk, m3, o2])) t [.str "let", .int mk, m3, o2] := SqT.of upd_same
      replace R := R.ext0 (Ext.new (o := (.tup [.str "let", .int mk, m3, o2])) nt)
      replace X := X.trans x2
      replace k3 := k3.ext x2
      replace y1 := y1.ext x2
      replace y2 := y2.ext x2
      replace glw := glw.ext x2
      replace go1 := go1.ext x2
      replace go2 := go2.ext x2
      replace h_L := x2.lst (not_in_one n_h_L) h_L
      replace h_M := x2.lst (not_in_one n_h_M) h_M
      have go3 : Gives K (upd H157 t (.tup [.str "let", .int mk, m3, o2])) 8 57 (fun _ => False) (.ref t) := (gives_let hT bm.1 bm.2 k3 go2).mono (by decide) (by decide) fun _ z => z
      clear hT x2
      generalize upd H157 t (.tup [.str "let", .int mk, m3, o2]) = H158 at R X go3 k3 y1 y2 glw go1 go2 h_L h_M ⊢
      generalize V.ref t = o3 at go3 ⊢
      clear nt
      exact q o3 H158 R X go3
end
end Env
end
section
set_option Elab.async false
set_option linter.all false
set_option maxRecDepth 100000
set_option maxHeartbeats 4000000
namespace Env
open PySem L2
local macro_rules | `(tactic| walk_at "side") => `(tactic| first
  | assumption
  | ((try dsimp only); omega)
  | decide
  | exact ⟨by omega, by omega⟩
  | exact .inr ⟨by decide, by decide⟩
  | exact .inl ⟨by omega, by omega⟩)
local macro_rules | `(tactic| walk_at "rd1") => `(tactic| first
  | with_reducible refine Exists.intro _ (And.intro rfl ?_)
  | refine Exists.intro _ (And.intro rfl ?_)
  | refine ⟨_, _, rfl, rfl, ?_⟩
  | refine And.intro rfl ?_
  | refine ⟨_, _, _, _, rfl, rfl, SqL.of (by assumption), rfl, ?_⟩
  | refine ⟨_, _, _, _, rfl, rfl, SqL.of upd_same, rfl, ?_⟩
  | refine And.intro (szb rfl) ?_
  | refine And.intro (Or.inl (And.intro rfl (Exists.intro _ (SqL.of (by assumption))))) ?_
  | refine Or.inl (Exists.intro _ (And.intro rfl ?_))
  | refine Or.inr (Exists.intro _ (And.intro rfl ?_))
  | refine And.intro (by walk_at "side") ?_
  | refine ⟨_, _, _, _, rfl, rfl, (by assumption), rfl, ?_⟩
  | refine ⟨_, _, _, _, rfl, rfl, upd_same, rfl, ?_⟩
  | refine ⟨_, _, rfl, .inl (SqL.of (by assumption)), ?_⟩
  | refine ⟨_, _, rfl, .inl (SqL.of upd_same), ?_⟩
  | refine ⟨_, _, rfl, .inl (by assumption), ?_⟩)
local macro_rules | `(tactic| walk_at "rd") => `(tactic| repeat walk_at "rd1")
local macro_rules | `(tactic| walk_at "ds") => `(tactic| dsimp only [tNil, tCons, tC, tNoPart, tPart, tCB, tOp, tTest, tB, tCall, List.nil_append, List.cons_append, List.append_nil])
local macro_rules | `(tactic| walk_at "tup") => `(tactic| (intro t nt))

section
variable {P : Program} {w : World} {K : PySem.W.Frag} {mg : Str → Option Value} {base : Heap}
theorem ok_l_side (T : Tx K mg) : FnOk P w K mg base CX0 2 T.l_side.f T.l_side.d P_l_side (spSide K) := by
  refine T.l_side.F.ok sc_l_side (fun vs H Q E h => ?_) (fun cdv A outer s' H vs Q EE hr hsp => ?_)
  · obtain ⟨r, s, n, rfl, _⟩ := h
    rfl
  obtain ⟨r, s, n, rfl, R, n1, n8, q⟩ := hsp
  refine ⟨_, (pss_cons (ps_set (i := 2) sc_l_side.nd rfl (Or.inr rfl) (pe_lc (own := [("_law_k", 3)]) (g := gName 3) (tt := tYes) (by rfl) sc_l_side.nd (pi_range1 (by rfl) T.B.b_range (pa_cons (pv 1) pa_nil)) (blkOk_by (N := N_l_side) (sc := defScope s_l_side) (by decide +kernel)) (fun _ _ _ _ _ => (pg_name (i := 3) sc_l_side.nd rfl (Or.inl rfl))) (fun _ _ _ _ _ => pts_nil) (fun _ _ _ _ _ => (pe_tup (pa_cons pe_str (pa_cons (pe_op op_mod (pv 3) pe_int) (pa_cons (pe_tup (pa_cons pe_str (pa_cons (pe_cl T.l_taken (ok_l_taken T) hr (by first | decide | omega) (by rfl) (pa_cons (pv 0) (pa_cons pe_int pa_nil))) pa_nil))) (pa_cons (pe_tup (pa_cons pe_str (pa_cons (pe_op op_mod (pv 3) pe_int) pa_nil))) pa_nil))))))))
    (pss_cons (ps_while PassesOwn.never (pt_cmpR op_gt (pe_callB (id := "len") (lenS (K := K) rfl) (by rfl) T.B.b_len (by decide +kernel) (pa_cons (pv 2) pa_nil)) pe_int (nomark _)) (pss_one (ps_set (i := 2) sc_l_side.nd rfl (Or.inr rfl) (pe_op op_cat (pe_lc (own := [("_law_k", 3)]) (g := gName 3) (tt := tYes) (by rfl) sc_l_side.nd (pi_range3 (by rfl) T.B.b_range (pa_cons pe_int (pa_cons (pe_op op_sub (pe_callB (id := "len") (lenS (K := K) rfl) (by rfl) T.B.b_len (by decide +kernel) (pa_cons (pv 2) pa_nil)) pe_int) (pa_cons pe_int pa_nil)))) (blkOk_by (N := N_l_side) (sc := defScope s_l_side) (by decide +kernel)) (fun _ _ _ _ _ => (pg_name (i := 3) sc_l_side.nd rfl (Or.inl rfl))) (fun _ _ _ _ _ => pts_nil) (fun _ _ _ _ _ => (pe_tup (pa_cons pe_str (pa_cons (pe_ix (ixL (K := K) rfl) (pv 2) (pv 3) (fun _ _ => rfl)) (pa_cons (pe_ix (ixL (K := K) rfl) (pv 2) (pe_op op_add (pv 3) pe_int) (fun _ _ => rfl)) pa_nil)))))) (pe_slice (slL (K := K) rfl) (pv 2) (po_some (pe_op op_mul (pe_op op_fdiv (pe_callB (id := "len") (lenS (K := K) rfl) (by rfl) T.B.b_len (by decide +kernel) (pa_cons (pv 2) pa_nil)) pe_int) pe_int)) po_none)))))
    (pss_one (ps_ret (pe_ix (ixL (K := K) rfl) (pv 2) pe_int (fun _ _ => rfl)))))), ?_⟩
  walk_at "rd"
  intro L nL
  have nLr := R.ne_new nL
  have oL := R.off nL
  have R1 := R.ext0 (Ext.new (o := .lst []) nL)
  refine lc_range (lo := 0) (n := n.toNat) (fun i H' => ∃ zs : List V, RowAt K r s H' ∧ Ext [r] H H' ∧ H' L = some (.lst zs) ∧ zs.length = i ∧ ∀ v ∈ zs, Gives K H' 2 3 (fun _ => False) v)
    ⟨[], R1, Ext.new nL, upd_same, rfl, fun _ z => nomatch z⟩ ?_ ?_
  · rintro i H1 hi ⟨zs, R, X, hL, hz, hg⟩
    refine ⟨rfl, ?_⟩
    have X0 := Ext.refl [r] H1
    have n_hL := nLr
    have bk : 0 ≤ ((0 : Int) + (i : Nat)) % 10 ∧ ((0 : Int) + (i : Nat)) % 10 ≤ 9 := by omega
    walk_at "rd"
    refine ⟨r, s, 99, rfl, R, by decide, by decide, fun d1 H101 d1_0 d1_1 R2 x2 => ?_⟩
    replace R := R2
    replace X := X.trans x2
    replace X0 := X0.trans x2
    replace hL := x2.lst (not_in_one n_hL) hL
    clear R2 x2
    walk_at "rd"
    intro t nt
    have x2 : Ext [r] H101 (upd H101 t (.tup [.str "num", .int d1])) := Ext.new nt
    have hT : SqT K (upd H101 t (.tup [.str "num", .int d1])) t [.str "num", .int d1] := SqT.of upd_same
    replace R := R.ext0 (Ext.new (o := (.tup [.str "num", .int d1])) nt)
    replace X := X.trans x2
    replace X0 := X0.trans x2
    replace hL := x2.lst (not_in_one n_hL) hL
    have g1 : Gives K (upd H101 t (.tup [.str "num", .int d1])) 1 1 (fun _ => False) (.ref t) := gives_num hT d1_0 (by omega)
    clear hT x2
    generalize upd H101 t (.tup [.str "num", .int d1]) = H102 at R X g1 X0 hL ⊢
    generalize V.ref t = v1 at g1 ⊢
    clear nt
    walk_at "rd"
    intro t nt
    have x2 : Ext [r] H102 (upd H102 t (.tup [.str "name", .int (((0 : Int) + (i : Nat)) % 10)])) := Ext.new nt
    have hT : SqT K (upd H102 t (.tup [.str "name", .int (((0 : Int) + (i : Nat)) % 10)])) t [.str "name", .int (((0 : Int) + (i : Nat)) % 10)] := SqT.of upd_same
    replace R := R.ext0 (Ext.new (o := (.tup [.str "name", .int (((0 : Int) + (i : Nat)) % 10)])) nt)
    replace X := X.trans x2
    replace X0 := X0.trans x2
    replace g1 := g1.ext x2
    replace hL := x2.lst (not_in_one n_hL) hL
    have g2 : Gives K (upd H102 t (.tup [.str "name", .int (((0 : Int) + (i : Nat)) % 10)])) 1 1 (fun j => j = ((0 : Int) + (i : Nat)) % 10 ∨ False) (.ref t) := gives_nam hT bk.1 bk.2 (.inl rfl)
    clear hT x2
    generalize upd H102 t (.tup [.str "name", .int (((0 : Int) + (i : Nat)) % 10)]) = H103 at R X g2 X0 g1 hL ⊢
    generalize V.ref t = v2 at g2 ⊢
    clear nt
    walk_at "rd"
    intro t nt
    have x2 : Ext [r] H103 (upd H103 t (.tup [.str "let", .int (((0 : Int) + (i : Nat)) % 10), v1, v2])) := Ext.new nt
    have hT : SqT K (upd H103 t (.tup [.str "let", .int (((0 : Int) + (i : Nat)) % 10), v1, v2])) t [.str "let", .int (((0 : Int) + (i : Nat)) % 10), v1, v2] := SqT.of upd_same
    replace R := R.ext0 (Ext.new (o := (.tup [.str "let", .int (((0 : Int) + (i : Nat)) % 10), v1, v2])) nt)
    replace X := X.trans x2
    replace X0 := X0.trans x2
    replace g1 := g1.ext x2
    replace g2 := g2.ext x2
    replace hL := x2.lst (not_in_one n_hL) hL
    have g3 : Gives K (upd H103 t (.tup [.str "let", .int (((0 : Int) + (i : Nat)) % 10), v1, v2])) 2 3 (fun _ => False) (.ref t) := (gives_let hT bk.1 bk.2 g1 g2).mono (by decide) (by decide) fun _ z => z
    clear hT x2
    generalize upd H103 t (.tup [.str "let", .int (((0 : Int) + (i : Nat)) % 10), v1, v2]) = H104 at R X g3 X0 g1 g2 hL ⊢
    generalize V.ref t = v3 at g3 ⊢
    clear nt
    walk_at "rd"
    have x2 : Ext [L] H104 (upd H104 L (.lst (zs ++ [v3]))) := Ext.put hL (List.mem_singleton.mpr rfl)
    refine ⟨_, hL, small1000 (by omega), zs ++ [v3], R.ext1 x2 nLr oL, X.mut nL, upd_same, by rw [List.length_append, hz]; rfl, fun v hv => ?_⟩
    rcases List.mem_append.mp hv with hv | hv
    · exact ((hg v hv).ext X0).ext x2
    · rw [List.mem_singleton.mp hv]
      exact g3.ext x2
  rintro H1 ⟨zs, R, X, hL, hz, hg⟩
  dsimp only [gName]
  refine seq_cut (fun σ' H' => ∃ (L : Addr) (v : V) (o : Option V), σ' = [some (.ref r), some (.int n), some (.ref L), o] ∧ RowAt K r s H' ∧ Ext [r] H H' ∧ Gives K H' 5 31 (fun _ => False) v ∧ ∃ rest, H' L = some (.lst (v :: rest))) (fun rest => ?main) ?rest
  case rest =>
    rintro σ' H2 ⟨L2, v, o, rfl, R, X, g, rest, hL2⟩
    walk_at "rd"
    refine ⟨_, _, _, _, rfl, rfl, SqL.of hL2, at_head, ?_⟩
    exact q v H2 R X g
  case main =>
    refine ⟨fun m σ H' => ∃ (L : Addr) (zs : List V) (j : Nat) (o : Option V), m = zs.length ∧ σ = [some (.ref r), some (.int n), some (.ref L), o] ∧ RowAt K r s H' ∧ Ext [r] H H' ∧ L ≠ r ∧ Off K s L ∧ H L = none ∧ H' L = some (.lst zs) ∧ j ≤ 3 ∧ 1 ≤ zs.length ∧ zs.length ≤ 2 ^ j ∧
      ∀ v ∈ zs, Gives K H' (5 - j) (2 ^ (5 - j) - 1) (fun _ => False) v, ⟨zs.length, L, zs, 3, none, rfl, rfl, R, X, nLr, oL, nL, hL, Nat.le_refl _, by omega, by rw [hz]; show n.toNat ≤ 8; omega, hg⟩, ?_⟩
    rintro m σ H2 ⟨L2, zs, j, o, rfl, rfl, R, X, n2r, o2, e2, hL2, hj, hz1, hz2, hg⟩
    walk_at "rd"
    refine ite2 (fun c => ?_) (fun c => ?_)
    · have c0 : 1 < zs.length := by have := cdec c; omega
      obtain ⟨j, rfl⟩ : ∃ i, j = i + 1 := ⟨j - 1, by
        cases j with
        | zero => simp at hz2; omega
        | succ i => rfl⟩
      have hz8 : zs.length ≤ 8 := by
        have : (2 : Nat) ^ (j + 1) ≤ 2 ^ 3 := Nat.pow_le_pow_right (by decide) hj
        omega
      refine ⟨fun σ' H' => ∃ (L' : Addr) (zs' : List V) (o : Option V), zs'.length < zs.length ∧ σ' = [some (.ref r), some (.int n), some (.ref L'), o] ∧ RowAt K r s H' ∧ Ext [r] H H' ∧ L' ≠ r ∧ Off K s L' ∧ H L' = none ∧ H' L' = some (.lst zs') ∧ 1 ≤ zs'.length ∧ zs'.length ≤ 2 ^ j ∧
        ∀ v ∈ zs', Gives K H' (5 - j) (2 ^ (5 - j) - 1) (fun _ => False) v, fun σ' H' ⟨L', zs', o, a1, a2, a3, a4, a5, a6, a7, a8, a9, a10, a11⟩ => ⟨zs'.length, a1, L', zs', j, o, rfl, a2, a3, a4, a5, a6, a7, a8, by omega, a9, a10, a11⟩, ?_⟩
      walk_at "rd"
      refine ⟨0, _, 2, _, rfl, rg2 zs.length c0 hz8, ?_⟩
      intro D nD
      have nDr := R.ne_new nD
      have oD := R.off nD
      have eD := X.fresh1 R nD
      have nDL : D ≠ L2 := fun z => by rw [z, hL2] at nD; cases nD
      refine lc_rangeC (lo := 0) (c := 2) (n := zs.length / 2) (fun i H' => ∃ ys : List V, Ext [] H2 H' ∧ H' D = some (.lst ys) ∧ ys.length = i ∧ ∀ v ∈ ys, Gives K H' (5 - j) (2 ^ (5 - j) - 1) (fun _ => False) v)
        ⟨[], Ext.new nD, upd_same, rfl, fun _ z => nomatch z⟩ ?_ ?_
      · rintro i H3 hi ⟨ys, x3, hD, hys, hgy⟩
        refine ⟨rfl, ?_⟩
        have hL3 : H3 L2 = some (.lst zs) := x3.lst (fun z => nomatch z) hL2
        have i1 : i * 2 < zs.length := by omega
        have i2 : i * 2 + 1 < zs.length := by omega
        have a1 : atI zs ((0 : Int) + (i : Nat) * 2) = some zs[i * 2] := by
          rw [show ((0 : Int) + (i : Nat) * 2) = ((i * 2 : Nat) : Int) by omega]
          exact atI_nat (List.getElem?_eq_getElem i1)
        have a2 : atI zs ((0 : Int) + (i : Nat) * 2 + 1) = some zs[i * 2 + 1] := by
          rw [show ((0 : Int) + (i : Nat) * 2 + 1) = ((i * 2 + 1 : Nat) : Int) by omega]
          exact atI_nat (List.getElem?_eq_getElem i2)
        walk_at "rd"
        refine ⟨_, _, _, _, rfl, rfl, SqL.of hL3, a1, ?_⟩
        walk_at "rd"
        refine ⟨_, _, _, _, rfl, rfl, SqL.of hL3, a2, ?_⟩
        walk_at "rd"
        intro t nt
        have x4 : Ext [] H3 (upd H3 t (.tup [.str "plus", zs[i * 2], zs[i * 2 + 1]])) := Ext.new nt
        have gp := gives_plus (K := K) (S := fun _ => False) (H := upd H3 t (.tup [.str "plus", zs[i * 2], zs[i * 2 + 1]])) (SqT.of upd_same) ((hg _ (List.getElem_mem i1)).ext (x3.trans x4)) ((hg _ (List.getElem_mem i2)).ext (x3.trans x4))
        have e1 : (2 : Nat) ^ (5 - j) = 2 ^ (5 - (j + 1)) * 2 := by
          rw [show 5 - j = (5 - (j + 1)) + 1 by omega]
          exact Nat.pow_succ _ _
        have e2 : 0 < (2 : Nat) ^ (5 - (j + 1)) := Nat.pow_pos (by decide)
        replace gp := gp.mono (n' := 5 - j) (m' := 2 ^ (5 - j) - 1) (by omega) (by omega) fun _ z => z
        have hD4 := x4.lst (fun z => nomatch z) hD
        generalize upd H3 t (.tup [.str "plus", zs[i * 2], zs[i * 2 + 1]]) = H4 at x4 gp hD4 ⊢
        walk_at "rd"
        have x5 : Ext [D] H4 (upd H4 D (.lst (ys ++ [.ref t]))) := Ext.put hD4 (List.mem_singleton.mpr rfl)
        refine ⟨_, hD4, small1000 (by omega), ys ++ [.ref t], (x3.trans x4).mut nD, upd_same, by rw [List.length_append, hys]; rfl, fun v hv => ?_⟩
        rcases List.mem_append.mp hv with hv | hv
        · exact ((hgy v hv).ext x4).ext x5
        · rw [List.mem_singleton.mp hv]
          exact gp.ext x5
      · rintro H3 ⟨ys, x3, hD, hys, hgy⟩
        have hL3 : H3 L2 = some (.lst zs) := x3.lst (fun z => nomatch z) hL2
        have ek : ((zs.length : Int) / 2 * 2) = ((zs.length / 2 * 2 : Nat) : Int) := by omega
        walk_at "rd"
        refine ⟨L2, zs, rfl, SqL.of hL3, fun p2 np2 => ?_⟩
        have hcut : cutV zs (some ((zs.length : Int) / 2 * 2)) none = zs.drop (zs.length / 2 * 2) := by
          rw [ek]
          exact cut_from (by omega)
        have x4 : Ext [] H3 (upd H3 p2 (.lst (cutV zs (some ((zs.length : Int) / 2 * 2)) none))) := Ext.new np2
        have hp4 : upd H3 p2 (.lst (cutV zs (some ((zs.length : Int) / 2 * 2)) none)) p2 = some (.lst (zs.drop (zs.length / 2 * 2))) := by rw [upd_same, hcut]
        have hD4 := x4.lst (fun z => nomatch z) hD
        generalize upd H3 p2 (.lst (cutV zs (some ((zs.length : Int) / 2 * 2)) none)) = H4 at x4 hp4 hD4
        refine ⟨D, p2, ys, zs.drop (zs.length / 2 * 2), rfl, rfl, hD4, hp4, Nat.le_of_lt (small1000 (by rw [List.length_drop]; omega)), fun p3 np3 => ?_⟩
        have x5 : Ext [] H4 (upd H4 p3 (.lst (ys ++ zs.drop (zs.length / 2 * 2)))) := Ext.new np3
        have x25 := (x3.trans x4).trans x5
        have R5 := R.ext0 x25
        have X5 := X.trans (x25.to (ns := [r]))
        have np0 : H2 p3 = none := (x3.trans x4).fresh0 np3
        have e1 : (2 : Nat) ^ (j + 1) = 2 ^ j * 2 := Nat.pow_succ _ _
        have e2 : (2 : Nat) ^ (5 - (j + 1)) ≤ 2 ^ (5 - j) := Nat.pow_le_pow_right (by decide) (by omega)
        refine ⟨p3, ys ++ zs.drop (zs.length / 2 * 2), o, by rw [List.length_append, List.length_drop]; omega, rfl, R5, X5, R.ne_new np0, R.off np0, X.fresh1 R np0, upd_same, by rw [List.length_append, List.length_drop]; omega, by rw [List.length_append, List.length_drop]; omega, fun v hv => ?_⟩
        rcases List.mem_append.mp hv with hv | hv
        · exact (hgy v hv).ext (x4.trans x5)
        · exact ((hg v (List.mem_of_mem_drop hv)).ext x25).mono (by omega) (by omega) fun _ z => z
    · have c0 : zs.length = 1 := by have := ndec c; omega
      match zs, c0 with
      | [v], _ => exact rest [some (.ref r), some (.int n), some (.ref L2), o] H2 ⟨L2, v, o, rfl, R, X, (hg v List.mem_cons_self).mono (by omega) (by
          have : (2 : Nat) ^ (5 - j) ≤ 2 ^ 5 := Nat.pow_le_pow_right (by decide) (by omega)
          omega) fun _ z => z, [], hL2⟩
end
end Env
end
section
set_option Elab.async false
set_option linter.all false
set_option maxRecDepth 100000
set_option maxHeartbeats 4000000
namespace Env
open PySem L2
local macro_rules | `(tactic| walk_at "side") => `(tactic| first
  | assumption
  | ((try dsimp only); omega)
  | decide
  | exact ⟨by omega, by omega⟩
  | exact .inr ⟨by decide, by decide⟩
  | exact .inl ⟨by omega, by omega⟩)
local macro_rules | `(tactic| walk_at "rd1") => `(tactic| first
  | with_reducible refine Exists.intro _ (And.intro rfl ?_)
  | refine Exists.intro _ (And.intro rfl ?_)
  | refine ⟨_, _, rfl, rfl, ?_⟩
  | refine And.intro rfl ?_
  | refine ⟨_, _, _, _, rfl, rfl, SqL.of (by assumption), rfl, ?_⟩
  | refine ⟨_, _, _, _, rfl, rfl, SqL.of upd_same, rfl, ?_⟩
  | refine And.intro (szb rfl) ?_
  | refine And.intro (Or.inl (And.intro rfl (Exists.intro _ (SqL.of (by assumption))))) ?_
  | refine Or.inl (Exists.intro _ (And.intro rfl ?_))
  | refine Or.inr (Exists.intro _ (And.intro rfl ?_))
  | refine And.intro (by walk_at "side") ?_
  | refine ⟨_, _, _, _, rfl, rfl, (by assumption), rfl, ?_⟩
  | refine ⟨_, _, _, _, rfl, rfl, upd_same, rfl, ?_⟩
  | refine ⟨_, _, rfl, .inl (SqL.of (by assumption)), ?_⟩
  | refine ⟨_, _, rfl, .inl (SqL.of upd_same), ?_⟩
  | refine ⟨_, _, rfl, .inl (by assumption), ?_⟩)
local macro_rules | `(tactic| walk_at "rd") => `(tactic| repeat walk_at "rd1")
local macro_rules | `(tactic| walk_at "ds") => `(tactic| dsimp only [tNil, tCons, tC, tNoPart, tPart, tCB, tOp, tTest, tB, tCall, List.nil_append, List.cons_append, List.append_nil])
local macro_rules | `(tactic| walk_at "tup") => `(tactic| (intro t nt))

section
variable {P : Program} {w : World} {K : PySem.W.Frag} {mg : Str → Option Value} {base : Heap}
theorem ok_l_broad (T : Tx K mg) : FnOk P w K mg base CX0 3 T.l_broad.f T.l_broad.d P_l_broad (spMakers K) := by
  refine T.l_broad.F.ok sc_l_broad (fun vs H Q E h => ?_) (fun cdv A outer s' H vs Q EE hr hsp => ?_)
  · obtain ⟨r, s, rfl, _⟩ := h
    rfl
  obtain ⟨r, s, rfl, R, q⟩ := hsp
  refine ⟨_, (pss_cons (ps_set (i := 1) sc_l_broad.nd rfl (Or.inl rfl) (pe_tup (pa_cons pe_str (pa_cons pe_int (pa_cons (pe_tup (pa_cons pe_str (pa_cons (pe_tup (pa_cons pe_str (pa_cons pe_int pa_nil))) (pa_cons (pe_tup (pa_cons pe_str (pa_cons pe_int pa_nil))) pa_nil)))) pa_nil)))))
    (pss_cons (ps_set (i := 2) sc_l_broad.nd rfl (Or.inl rfl) (pe_tup (pa_cons pe_str (pa_cons pe_int (pa_cons (pe_tup (pa_cons pe_str (pa_cons pe_int (pa_cons (pe_cl T.l_side (ok_l_side T) hr (by first | decide | omega) (by rfl) (pa_cons (pv 0) (pa_cons (pe_op op_add pe_int (pe_op op_mul pe_int (pe_cl T.l_taken (ok_l_taken T) hr (by first | decide | omega) (by rfl) (pa_cons (pv 0) (pa_cons pe_int pa_nil))))) pa_nil))) (pa_cons (pv 1) pa_nil))))) pa_nil)))))
    (pss_cons (ps_set (i := 3) sc_l_broad.nd rfl (Or.inl rfl) (pe_tup (pa_cons pe_str (pa_cons (pe_tup (pa_cons pe_str (pa_cons pe_int pa_nil))) (pa_cons (pe_tup (pa_cons pe_str (pa_cons (pe_cl T.l_taken (ok_l_taken T) hr (by first | decide | omega) (by rfl) (pa_cons (pv 0) (pa_cons pe_int pa_nil))) pa_nil))) pa_nil)))))
    (pss_one (ps_ret (pe_tup (pa_cons pe_str (pa_cons pe_int (pa_cons (pv 2) (pa_cons (pe_ix (ixL (K := K) rfl) (pe_lst (pa_cons (pv 3) (pa_cons (pe_tup (pa_cons pe_str (pa_cons (pv 3) (pa_cons (pe_tup (pa_cons pe_str (pa_cons pe_int pa_nil))) pa_nil)))) pa_nil))) (pe_cl T.l_taken (ok_l_taken T) hr (by first | decide | omega) (by rfl) (pa_cons (pv 0) (pa_cons pe_int pa_nil))) (fun _ _ => rfl)) pa_nil)))))))))), ?_⟩
  have X := Ext.refl [r] H
  let S2 : Int → Prop := fun j => j = 2 ∨ False
  let S4 : Int → Prop := fun j => j = 4 ∨ S2 j
  let S3 : Int → Prop := fun j => j = 3 ∨ S4 j
  let S1 : Int → Prop := fun j => j = 1 ∨ False
  walk_at "rd"
  intro t nt
  have x2 : Ext [r] H (upd H t (.tup [.str "name", .int 2])) := Ext.new nt
  have hT : SqT K (upd H t (.tup [.str "name", .int 2])) t [.str "name", .int 2] := SqT.of upd_same
  replace R := R.ext0 (Ext.new (o := (.tup [.str "name", .int 2])) nt)
  replace X := X.trans x2
  have g1 : Gives K (upd H t (.tup [.str "name", .int 2])) 1 1 S3 (.ref t) := gives_nam hT (by decide) (by decide) (.inr (.inr (.inl rfl)))
  clear hT x2
  generalize upd H t (.tup [.str "name", .int 2]) = H101 at R X g1 ⊢
  generalize V.ref t = v1 at g1 ⊢
  clear nt
  walk_at "rd"
  intro t nt
  have x2 : Ext [r] H101 (upd H101 t (.tup [.str "name", .int 4])) := Ext.new nt
  have hT : SqT K (upd H101 t (.tup [.str "name", .int 4])) t [.str "name", .int 4] := SqT.of upd_same
  replace R := R.ext0 (Ext.new (o := (.tup [.str "name", .int 4])) nt)
  replace X := X.trans x2
  replace g1 := g1.ext x2
  have g2 : Gives K (upd H101 t (.tup [.str "name", .int 4])) 1 1 S3 (.ref t) := gives_nam hT (by decide) (by decide) (.inr (.inl rfl))
  clear hT x2
  generalize upd H101 t (.tup [.str "name", .int 4]) = H102 at R X g2 g1 ⊢
  generalize V.ref t = v2 at g2 ⊢
  clear nt
  walk_at "rd"
  intro t nt
  have x2 : Ext [r] H102 (upd H102 t (.tup [.str "plus", v1, v2])) := Ext.new nt
  have hT : SqT K (upd H102 t (.tup [.str "plus", v1, v2])) t [.str "plus", v1, v2] := SqT.of upd_same
  replace R := R.ext0 (Ext.new (o := (.tup [.str "plus", v1, v2])) nt)
  replace X := X.trans x2
  replace g1 := g1.ext x2
  replace g2 := g2.ext x2
  have g3 : Gives K (upd H102 t (.tup [.str "plus", v1, v2])) 2 3 S3 (.ref t) := (gives_plus hT g1 g2).mono (by decide) (by decide) fun _ z => z
  clear hT x2
  generalize upd H102 t (.tup [.str "plus", v1, v2]) = H103 at R X g3 g1 g2 ⊢
  generalize V.ref t = v3 at g3 ⊢
  clear nt
  walk_at "rd"
  intro t nt
  have x2 : Ext [r] H103 (upd H103 t (.tup [.str "fun", .int 3, v3])) := Ext.new nt
  have hT : SqT K (upd H103 t (.tup [.str "fun", .int 3, v3])) t [.str "fun", .int 3, v3] := SqT.of upd_same
  replace R := R.ext0 (Ext.new (o := (.tup [.str "fun", .int 3, v3])) nt)
  replace X := X.trans x2
  replace g1 := g1.ext x2
  replace g2 := g2.ext x2
  replace g3 := g3.ext x2
  have g4 : Gives K (upd H103 t (.tup [.str "fun", .int 3, v3])) 3 4 S4 (.ref t) := (gives_fun hT (by decide) (by decide) g3).mono (by decide) (by decide) fun _ z => z
  clear hT x2
  generalize upd H103 t (.tup [.str "fun", .int 3, v3]) = H104 at R X g4 g1 g2 g3 ⊢
  generalize V.ref t = v4 at g4 ⊢
  clear nt
  clear g1
  clear g2
  clear g3
  walk_at "rd"
  refine ⟨r, s, 4, rfl, R, by decide, by decide, fun d1 H105 d1_0 d1_1 R2 x2 => ?_⟩
  replace R := R2
  replace X := X.trans x2
  replace g4 := g4.ext x2
  clear R2 x2
  walk_at "rd"
  refine ⟨r, s, 2 + 2 * d1, rfl, R, by omega, by omega, fun v5 H106 R2 x2 g2 => ?_⟩
  replace R := R2
  replace X := X.trans x2
  replace g4 := g4.ext x2
  have g5 := g2
  clear R2 x2 g2
  replace g5 := g5.mono (S' := S2) (Nat.le_refl _) (Nat.le_refl _) fun _ z => z.elim
  walk_at "rd"
  intro t nt
  have x2 : Ext [r] H106 (upd H106 t (.tup [.str "let", .int 4, v5, v4])) := Ext.new nt
  have hT : SqT K (upd H106 t (.tup [.str "let", .int 4, v5, v4])) t [.str "let", .int 4, v5, v4] := SqT.of upd_same
  replace R := R.ext0 (Ext.new (o := (.tup [.str "let", .int 4, v5, v4])) nt)
  replace X := X.trans x2
  replace g4 := g4.ext x2
  replace g5 := g5.ext x2
  have g6 : Gives K (upd H106 t (.tup [.str "let", .int 4, v5, v4])) 6 36 S2 (.ref t) := (gives_let hT (by decide) (by decide) g5 g4).mono (by decide) (by decide) fun _ z => z
  clear hT x2
  generalize upd H106 t (.tup [.str "let", .int 4, v5, v4]) = H107 at R X g6 g4 g5 ⊢
  generalize V.ref t = v6 at g6 ⊢
  clear nt
  clear g4
  clear g5
  walk_at "rd"
  intro t nt
  have x2 : Ext [r] H107 (upd H107 t (.tup [.str "fun", .int 2, v6])) := Ext.new nt
  have hT : SqT K (upd H107 t (.tup [.str "fun", .int 2, v6])) t [.str "fun", .int 2, v6] := SqT.of upd_same
  replace R := R.ext0 (Ext.new (o := (.tup [.str "fun", .int 2, v6])) nt)
  replace X := X.trans x2
  replace g6 := g6.ext x2
  have g7 : Gives K (upd H107 t (.tup [.str "fun", .int 2, v6])) 7 37 (fun _ => False) (.ref t) := (gives_fun hT (by decide) (by decide) g6).mono (by decide) (by decide) fun _ z => z
  clear hT x2
  generalize upd H107 t (.tup [.str "fun", .int 2, v6]) = H108 at R X g7 g6 ⊢
  generalize V.ref t = v7 at g7 ⊢
  clear nt
  clear g6
  walk_at "rd"
  intro t nt
  have x2 : Ext [r] H108 (upd H108 t (.tup [.str "name", .int 1])) := Ext.new nt
  have hT : SqT K (upd H108 t (.tup [.str "name", .int 1])) t [.str "name", .int 1] := SqT.of upd_same
  replace R := R.ext0 (Ext.new (o := (.tup [.str "name", .int 1])) nt)
  replace X := X.trans x2
  replace g7 := g7.ext x2
  have g8 : Gives K (upd H108 t (.tup [.str "name", .int 1])) 1 1 S1 (.ref t) := gives_nam hT (by decide) (by decide) (.inl rfl)
  clear hT x2
  generalize upd H108 t (.tup [.str "name", .int 1]) = H109 at R X g8 g7 ⊢
  generalize V.ref t = v8 at g8 ⊢
  clear nt
  walk_at "rd"
  refine ⟨r, s, 9, rfl, R, by decide, by decide, fun d2 H110 d2_0 d2_1 R2 x2 => ?_⟩
  replace R := R2
  replace X := X.trans x2
  replace g7 := g7.ext x2
  replace g8 := g8.ext x2
  clear R2 x2
  walk_at "rd"
  intro t nt
  have x2 : Ext [r] H110 (upd H110 t (.tup [.str "num", .int d2])) := Ext.new nt
  have hT : SqT K (upd H110 t (.tup [.str "num", .int d2])) t [.str "num", .int d2] := SqT.of upd_same
  replace R := R.ext0 (Ext.new (o := (.tup [.str "num", .int d2])) nt)
  replace X := X.trans x2
  replace g7 := g7.ext x2
  replace g8 := g8.ext x2
  have g9 : Gives K (upd H110 t (.tup [.str "num", .int d2])) 1 1 S1 (.ref t) := gives_num hT d2_0 (by omega)
  clear hT x2
  generalize upd H110 t (.tup [.str "num", .int d2]) = H111 at R X g9 g7 g8 ⊢
  generalize V.ref t = v9 at g9 ⊢
  clear nt
  walk_at "rd"
  intro t nt
  have x2 : Ext [r] H111 (upd H111 t (.tup [.str "call", v8, v9])) := Ext.new nt
  have hT : SqT K (upd H111 t (.tup [.str "call", v8, v9])) t [.str "call", v8, v9] := SqT.of upd_same
  replace R := R.ext0 (Ext.new (o := (.tup [.str "call", v8, v9])) nt)
  replace X := X.trans x2
  replace g7 := g7.ext x2
  replace g8 := g8.ext x2
  replace g9 := g9.ext x2
  have g10 : Gives K (upd H111 t (.tup [.str "call", v8, v9])) 2 3 S1 (.ref t) := (gives_call hT g8 g9).mono (by decide) (by decide) fun _ z => z
  clear hT x2
  generalize upd H111 t (.tup [.str "call", v8, v9]) = H112 at R X g10 g7 g8 g9 ⊢
  generalize V.ref t = v10 at g10 ⊢
  clear nt
  clear g8
  clear g9
  walk_at "rd"
  intro t nt
  have x2 : Ext [r] H112 (upd H112 t (.tup [.str "num", .int 5])) := Ext.new nt
  have hT : SqT K (upd H112 t (.tup [.str "num", .int 5])) t [.str "num", .int 5] := SqT.of upd_same
  replace R := R.ext0 (Ext.new (o := (.tup [.str "num", .int 5])) nt)
  replace X := X.trans x2
  replace g7 := g7.ext x2
  replace g10 := g10.ext x2
  have g11 : Gives K (upd H112 t (.tup [.str "num", .int 5])) 1 1 S1 (.ref t) := gives_num hT (by decide) (by decide)
  clear hT x2
  generalize upd H112 t (.tup [.str "num", .int 5]) = H113 at R X g11 g7 g10 ⊢
  generalize V.ref t = v11 at g11 ⊢
  clear nt
  walk_at "rd"
  intro t nt
  have x2 : Ext [r] H113 (upd H113 t (.tup [.str "call", v10, v11])) := Ext.new nt
  have hT : SqT K (upd H113 t (.tup [.str "call", v10, v11])) t [.str "call", v10, v11] := SqT.of upd_same
  replace R := R.ext0 (Ext.new (o := (.tup [.str "call", v10, v11])) nt)
  replace X := X.trans x2
  replace g7 := g7.ext x2
  replace g10 := g10.ext x2
  replace g11 := g11.ext x2
  have g12 : Gives K (upd H113 t (.tup [.str "call", v10, v11])) 3 5 S1 (.ref t) := (gives_call hT g10 g11).mono (by decide) (by decide) fun _ z => z
  clear hT x2
  generalize upd H113 t (.tup [.str "call", v10, v11]) = H114 at R X g12 g7 g10 g11 ⊢
  generalize V.ref t = v12 at g12 ⊢
  clear nt
  walk_at "rd"
  intro LL nl
  have x2 : Ext [r] H114 (upd H114 LL (.lst [v10, v12])) := Ext.new nl
  have n_h_LL : LL ≠ r := R.ne_new nl
  have s_LL : Off K s LL := R.off nl
  have o_LL : H LL = none := X.fresh1 R nl
  have h_LL : upd H114 LL (.lst [v10, v12]) LL = some (.lst [v10, v12]) := upd_same
  replace R := R.ext0 (Ext.new (o := (.lst [v10, v12])) nl)
  replace X := X.trans x2
  replace g7 := g7.ext x2
  replace g10 := g10.ext x2
  replace g11 := g11.ext x2
  replace g12 := g12.ext x2
  clear x2
  generalize upd H114 LL (.lst [v10, v12]) = H115 at R X h_LL g7 g10 g11 g12 ⊢
  clear nl
  walk_at "rd"
  refine ⟨r, s, 2, rfl, R, by decide, by decide, fun pk H116 pk_0 pk_1 R2 x2 => ?_⟩
  replace R := R2
  replace X := X.trans x2
  replace g7 := g7.ext x2
  replace g10 := g10.ext x2
  replace g11 := g11.ext x2
  replace g12 := g12.ext x2
  replace h_LL := x2.lst (not_in_one n_h_LL) h_LL
  clear R2 x2
  obtain ⟨lw_pk, ml, hat⟩ := at_any (xs := [v10, v12]) pk_0 pk_1
  have gl : Gives K H116 3 5 S1 lw_pk := by
    have ml : lw_pk = v10 ∨ lw_pk = v12 := by simpa using ml
    rcases ml with rfl | rfl
    · exact g10.mono (by decide) (by decide) fun _ z => z
    · exact g12.mono (by decide) (by decide) fun _ z => z
  refine ⟨_, _, _, _, rfl, rfl, SqL.of h_LL, hat, ?_⟩
  clear hat ml
  walk_at "rd"
  intro t nt
  have x2 : Ext [r] H116 (upd H116 t (.tup [.str "let", .int 1, v7, lw_pk])) := Ext.new nt
  have hT : SqT K (upd H116 t (.tup [.str "let", .int 1, v7, lw_pk])) t [.str "let", .int 1, v7, lw_pk] := SqT.of upd_same
  replace R := R.ext0 (Ext.new (o := (.tup [.str "let", .int 1, v7, lw_pk])) nt)
  replace X := X.trans x2
  replace g7 := g7.ext x2
  replace g10 := g10.ext x2
  replace g11 := g11.ext x2
  replace g12 := g12.ext x2
  replace gl := gl.ext x2
  replace h_LL := x2.lst (not_in_one n_h_LL) h_LL
  have go1 : Gives K (upd H116 t (.tup [.str "let", .int 1, v7, lw_pk])) 8 57 (fun _ => False) (.ref t) := (gives_let hT (by decide) (by decide) g7 gl).mono (by decide) (by decide) fun _ z => z
  clear hT x2
  generalize upd H116 t (.tup [.str "let", .int 1, v7, lw_pk]) = H117 at R X go1 g7 g10 g11 g12 gl h_LL ⊢
  generalize V.ref t = o1 at go1 ⊢
  clear nt
  exact q o1 H117 R X go1
theorem ok_l_far (T : Tx K mg) : FnOk P w K mg base CX0 3 T.l_far.f T.l_far.d P_l_far (spMakers K) := by
  refine T.l_far.F.ok sc_l_far (fun vs H Q E h => ?_) (fun cdv A outer s' H vs Q EE hr hsp => ?_)
  · obtain ⟨r, s, rfl, _⟩ := h
    rfl
  obtain ⟨r, s, rfl, R, q⟩ := hsp
  refine ⟨_, (pss_cons (ps_set (i := 1) sc_l_far.nd rfl (Or.inl rfl) (pe_tup (pa_cons pe_str (pa_cons (pe_tup (pa_cons pe_str (pa_cons pe_int pa_nil))) (pa_cons (pe_tup (pa_cons pe_str (pa_cons pe_int pa_nil))) pa_nil)))))
    (pss_cons (ps_set (i := 2) sc_l_far.nd rfl (Or.inl rfl) (pe_lst (pa_cons (pe_tup (pa_cons pe_str (pa_cons (pe_tup (pa_cons pe_str (pa_cons pe_int pa_nil))) (pa_cons (pe_tup (pa_cons pe_str (pa_cons pe_int pa_nil))) pa_nil)))) (pa_cons (pe_tup (pa_cons pe_str (pa_cons (pe_tup (pa_cons pe_str (pa_cons pe_int pa_nil))) (pa_cons (pe_tup (pa_cons pe_str (pa_cons pe_int pa_nil))) pa_nil)))) (pa_cons (pe_tup (pa_cons pe_str (pa_cons (pe_tup (pa_cons pe_str (pa_cons pe_int pa_nil))) (pa_cons (pe_tup (pa_cons pe_str (pa_cons pe_int pa_nil))) pa_nil)))) pa_nil)))))
    (pss_cons (ps_set (i := 3) sc_l_far.nd rfl (Or.inl rfl) (pe_ix (ixL (K := K) rfl) (pe_op op_cat (pv 2) (pe_lst (pa_cons (pe_tup (pa_cons pe_str (pa_cons (pe_tup (pa_cons pe_str (pa_cons pe_int pa_nil))) (pa_cons (pe_tup (pa_cons pe_str (pa_cons pe_int pa_nil))) pa_nil)))) (pa_cons (pe_tup (pa_cons pe_str (pa_cons pe_int pa_nil))) pa_nil)))) (pe_cl T.l_taken (ok_l_taken T) hr (by first | decide | omega) (by rfl) (pa_cons (pv 0) (pa_cons pe_int pa_nil))) (fun _ _ => rfl)))
    (pss_cons (ps_set (i := 4) sc_l_far.nd rfl (Or.inl rfl) (pe_tup (pa_cons pe_str (pa_cons (pe_tup (pa_cons pe_str (pa_cons pe_int pa_nil))) (pa_cons (pe_tup (pa_cons pe_str (pa_cons (pe_tup (pa_cons pe_str (pa_cons (pe_tup (pa_cons pe_str (pa_cons pe_int pa_nil))) (pa_cons (pe_tup (pa_cons pe_str (pa_cons pe_int pa_nil))) pa_nil)))) (pa_cons (pv 1) pa_nil)))) (pa_cons (pv 3) pa_nil))))))
    (pss_cons (ps_set (i := 5) sc_l_far.nd rfl (Or.inl rfl) (pe_tup (pa_cons pe_str (pa_cons (pe_tup (pa_cons pe_str (pa_cons (pe_tup (pa_cons pe_str (pa_cons pe_int pa_nil))) (pa_cons (pe_tup (pa_cons pe_str (pa_cons pe_int pa_nil))) pa_nil)))) (pa_cons (pe_tup (pa_cons pe_str (pa_cons (pe_cl T.l_taken (ok_l_taken T) hr (by first | decide | omega) (by rfl) (pa_cons (pv 0) (pa_cons pe_int pa_nil))) pa_nil))) pa_nil)))))
    (pss_one (ps_ret (pe_tup (pa_cons pe_str (pa_cons pe_int (pa_cons (pe_tup (pa_cons pe_str (pa_cons pe_int (pa_cons (pe_tup (pa_cons pe_str (pa_cons pe_int (pa_cons (pv 4) pa_nil)))) pa_nil)))) (pa_cons (pv 5) pa_nil)))))))))))), ?_⟩
  have X := Ext.refl [r] H
  let S2 : Int → Prop := fun j => j = 2 ∨ False
  let S3 : Int → Prop := fun j => j = 3 ∨ S2 j
  let S1 : Int → Prop := fun j => j = 1 ∨ False
  walk_at "rd"
  intro t nt
  have x2 : Ext [r] H (upd H t (.tup [.str "name", .int 3])) := Ext.new nt
  have hT : SqT K (upd H t (.tup [.str "name", .int 3])) t [.str "name", .int 3] := SqT.of upd_same
  replace R := R.ext0 (Ext.new (o := (.tup [.str "name", .int 3])) nt)
  replace X := X.trans x2
  have g1 : Gives K (upd H t (.tup [.str "name", .int 3])) 1 1 S3 (.ref t) := gives_nam hT (by decide) (by decide) (.inl rfl)
  clear hT x2
  generalize upd H t (.tup [.str "name", .int 3]) = H118 at R X g1 ⊢
  generalize V.ref t = a1 at g1 ⊢
  clear nt
  walk_at "rd"
  intro t nt
  have x2 : Ext [r] H118 (upd H118 t (.tup [.str "num", .int 999])) := Ext.new nt
  have hT : SqT K (upd H118 t (.tup [.str "num", .int 999])) t [.str "num", .int 999] := SqT.of upd_same
  replace R := R.ext0 (Ext.new (o := (.tup [.str "num", .int 999])) nt)
  replace X := X.trans x2
  replace g1 := g1.ext x2
  have g2 : Gives K (upd H118 t (.tup [.str "num", .int 999])) 1 1 S3 (.ref t) := gives_num hT (by decide) (by decide)
  clear hT x2
  generalize upd H118 t (.tup [.str "num", .int 999]) = H119 at R X g2 g1 ⊢
  generalize V.ref t = a2 at g2 ⊢
  clear nt
  walk_at "rd"
  intro t nt
  have x2 : Ext [r] H119 (upd H119 t (.tup [.str "plus", a1, a2])) := Ext.new nt
  have hT : SqT K (upd H119 t (.tup [.str "plus", a1, a2])) t [.str "plus", a1, a2] := SqT.of upd_same
  replace R := R.ext0 (Ext.new (o := (.tup [.str "plus", a1, a2])) nt)
  replace X := X.trans x2
  replace g1 := g1.ext x2
  replace g2 := g2.ext x2
  have gless : Gives K (upd H119 t (.tup [.str "plus", a1, a2])) 2 3 S3 (.ref t) := (gives_plus hT g1 g2).mono (by decide) (by decide) fun _ z => z
  clear hT x2
  generalize upd H119 t (.tup [.str "plus", a1, a2]) = H120 at R X gless g1 g2 ⊢
  generalize V.ref t = less at gless ⊢
  clear nt
  clear g1
  clear g2
  walk_at "rd"
  intro t nt
  have x2 : Ext [r] H120 (upd H120 t (.tup [.str "num", .int 1])) := Ext.new nt
  have hT : SqT K (upd H120 t (.tup [.str "num", .int 1])) t [.str "num", .int 1] := SqT.of upd_same
  replace R := R.ext0 (Ext.new (o := (.tup [.str "num", .int 1])) nt)
  replace X := X.trans x2
  replace gless := gless.ext x2
  have g3 : Gives K (upd H120 t (.tup [.str "num", .int 1])) 1 1 S3 (.ref t) := gives_num hT (by decide) (by decide)
  clear hT x2
  generalize upd H120 t (.tup [.str "num", .int 1]) = H121 at R X g3 gless ⊢
  generalize V.ref t = a3 at g3 ⊢
  clear nt
  walk_at "rd"
  intro t nt
  have x2 : Ext [r] H121 (upd H121 t (.tup [.str "name", .int 2])) := Ext.new nt
  have hT : SqT K (upd H121 t (.tup [.str "name", .int 2])) t [.str "name", .int 2] := SqT.of upd_same
  replace R := R.ext0 (Ext.new (o := (.tup [.str "name", .int 2])) nt)
  replace X := X.trans x2
  replace gless := gless.ext x2
  replace g3 := g3.ext x2
  have g4 : Gives K (upd H121 t (.tup [.str "name", .int 2])) 1 1 S3 (.ref t) := gives_nam hT (by decide) (by decide) (.inr (.inl rfl))
  clear hT x2
  generalize upd H121 t (.tup [.str "name", .int 2]) = H122 at R X g4 gless g3 ⊢
  generalize V.ref t = a4 at g4 ⊢
  clear nt
  walk_at "rd"
  intro t nt
  have x2 : Ext [r] H122 (upd H122 t (.tup [.str "plus", a3, a4])) := Ext.new nt
  have hT : SqT K (upd H122 t (.tup [.str "plus", a3, a4])) t [.str "plus", a3, a4] := SqT.of upd_same
  replace R := R.ext0 (Ext.new (o := (.tup [.str "plus", a3, a4])) nt)
  replace X := X.trans x2
  replace gless := gless.ext x2
  replace g3 := g3.ext x2
  replace g4 := g4.ext x2
  have gf1 : Gives K (upd H122 t (.tup [.str "plus", a3, a4])) 2 3 S3 (.ref t) := (gives_plus hT g3 g4).mono (by decide) (by decide) fun _ z => z
  clear hT x2
  generalize upd H122 t (.tup [.str "plus", a3, a4]) = H123 at R X gf1 gless g3 g4 ⊢
  generalize V.ref t = f1 at gf1 ⊢
  clear nt
  clear g3
  clear g4
  walk_at "rd"
  intro t nt
  have x2 : Ext [r] H123 (upd H123 t (.tup [.str "name", .int 2])) := Ext.new nt
  have hT : SqT K (upd H123 t (.tup [.str "name", .int 2])) t [.str "name", .int 2] := SqT.of upd_same
  replace R := R.ext0 (Ext.new (o := (.tup [.str "name", .int 2])) nt)
  replace X := X.trans x2
  replace gless := gless.ext x2
  replace gf1 := gf1.ext x2
  have g5 : Gives K (upd H123 t (.tup [.str "name", .int 2])) 1 1 S3 (.ref t) := gives_nam hT (by decide) (by decide) (.inr (.inl rfl))
  clear hT x2
  generalize upd H123 t (.tup [.str "name", .int 2]) = H124 at R X g5 gless gf1 ⊢
  generalize V.ref t = a5 at g5 ⊢
  clear nt
  walk_at "rd"
  intro t nt
  have x2 : Ext [r] H124 (upd H124 t (.tup [.str "num", .int 1])) := Ext.new nt
  have hT : SqT K (upd H124 t (.tup [.str "num", .int 1])) t [.str "num", .int 1] := SqT.of upd_same
  replace R := R.ext0 (Ext.new (o := (.tup [.str "num", .int 1])) nt)
  replace X := X.trans x2
  replace gless := gless.ext x2
  replace gf1 := gf1.ext x2
  replace g5 := g5.ext x2
  have g6 : Gives K (upd H124 t (.tup [.str "num", .int 1])) 1 1 S3 (.ref t) := gives_num hT (by decide) (by decide)
  clear hT x2
  generalize upd H124 t (.tup [.str "num", .int 1]) = H125 at R X g6 gless gf1 g5 ⊢
  generalize V.ref t = a6 at g6 ⊢
  clear nt
  walk_at "rd"
  intro t nt
  have x2 : Ext [r] H125 (upd H125 t (.tup [.str "plus", a5, a6])) := Ext.new nt
  have hT : SqT K (upd H125 t (.tup [.str "plus", a5, a6])) t [.str "plus", a5, a6] := SqT.of upd_same
  replace R := R.ext0 (Ext.new (o := (.tup [.str "plus", a5, a6])) nt)
  replace X := X.trans x2
  replace gless := gless.ext x2
  replace gf1 := gf1.ext x2
  replace g5 := g5.ext x2
  replace g6 := g6.ext x2
  have gf2 : Gives K (upd H125 t (.tup [.str "plus", a5, a6])) 2 3 S3 (.ref t) := (gives_plus hT g5 g6).mono (by decide) (by decide) fun _ z => z
  clear hT x2
  generalize upd H125 t (.tup [.str "plus", a5, a6]) = H126 at R X gf2 gless gf1 g5 g6 ⊢
  generalize V.ref t = f2 at gf2 ⊢
  clear nt
  clear g5
  clear g6
  walk_at "rd"
  intro t nt
  have x2 : Ext [r] H126 (upd H126 t (.tup [.str "num", .int 1])) := Ext.new nt
  have hT : SqT K (upd H126 t (.tup [.str "num", .int 1])) t [.str "num", .int 1] := SqT.of upd_same
  replace R := R.ext0 (Ext.new (o := (.tup [.str "num", .int 1])) nt)
  replace X := X.trans x2
  replace gless := gless.ext x2
  replace gf1 := gf1.ext x2
  replace gf2 := gf2.ext x2
  have g7 : Gives K (upd H126 t (.tup [.str "num", .int 1])) 1 1 S3 (.ref t) := gives_num hT (by decide) (by decide)
  clear hT x2
  generalize upd H126 t (.tup [.str "num", .int 1]) = H127 at R X g7 gless gf1 gf2 ⊢
  generalize V.ref t = a7 at g7 ⊢
  clear nt
  walk_at "rd"
  intro t nt
  have x2 : Ext [r] H127 (upd H127 t (.tup [.str "name", .int 2])) := Ext.new nt
  have hT : SqT K (upd H127 t (.tup [.str "name", .int 2])) t [.str "name", .int 2] := SqT.of upd_same
  replace R := R.ext0 (Ext.new (o := (.tup [.str "name", .int 2])) nt)
  replace X := X.trans x2
  replace gless := gless.ext x2
  replace gf1 := gf1.ext x2
  replace gf2 := gf2.ext x2
  replace g7 := g7.ext x2
  have g8 : Gives K (upd H127 t (.tup [.str "name", .int 2])) 1 1 S3 (.ref t) := gives_nam hT (by decide) (by decide) (.inr (.inl rfl))
  clear hT x2
  generalize upd H127 t (.tup [.str "name", .int 2]) = H128 at R X g8 gless gf1 gf2 g7 ⊢
  generalize V.ref t = a8 at g8 ⊢
  clear nt
  walk_at "rd"
  intro t nt
  have x2 : Ext [r] H128 (upd H128 t (.tup [.str "call", a7, a8])) := Ext.new nt
  have hT : SqT K (upd H128 t (.tup [.str "call", a7, a8])) t [.str "call", a7, a8] := SqT.of upd_same
  replace R := R.ext0 (Ext.new (o := (.tup [.str "call", a7, a8])) nt)
  replace X := X.trans x2
  replace gless := gless.ext x2
  replace gf1 := gf1.ext x2
  replace gf2 := gf2.ext x2
  replace g7 := g7.ext x2
  replace g8 := g8.ext x2
  have gf3 : Gives K (upd H128 t (.tup [.str "call", a7, a8])) 2 3 S3 (.ref t) := (gives_call hT g7 g8).mono (by decide) (by decide) fun _ z => z
  clear hT x2
  generalize upd H128 t (.tup [.str "call", a7, a8]) = H129 at R X gf3 gless gf1 gf2 g7 g8 ⊢
  generalize V.ref t = f3 at gf3 ⊢
  clear nt
  clear g7
  clear g8
  walk_at "rd"
  intro LF nl
  have x2 : Ext [r] H129 (upd H129 LF (.lst [f1, f2, f3])) := Ext.new nl
  have n_h_LF : LF ≠ r := R.ne_new nl
  have s_LF : Off K s LF := R.off nl
  have o_LF : H LF = none := X.fresh1 R nl
  have h_LF : upd H129 LF (.lst [f1, f2, f3]) LF = some (.lst [f1, f2, f3]) := upd_same
  replace R := R.ext0 (Ext.new (o := (.lst [f1, f2, f3])) nl)
  replace X := X.trans x2
  replace gless := gless.ext x2
  replace gf1 := gf1.ext x2
  replace gf2 := gf2.ext x2
  replace gf3 := gf3.ext x2
  clear x2
  generalize upd H129 LF (.lst [f1, f2, f3]) = H130 at R X h_LF gless gf1 gf2 gf3 ⊢
  clear nl
  walk_at "rd"
  intro t nt
  have x2 : Ext [r] H130 (upd H130 t (.tup [.str "num", .int 999])) := Ext.new nt
  have hT : SqT K (upd H130 t (.tup [.str "num", .int 999])) t [.str "num", .int 999] := SqT.of upd_same
  replace R := R.ext0 (Ext.new (o := (.tup [.str "num", .int 999])) nt)
  replace X := X.trans x2
  replace gless := gless.ext x2
  replace gf1 := gf1.ext x2
  replace gf2 := gf2.ext x2
  replace gf3 := gf3.ext x2
  replace h_LF := x2.lst (not_in_one n_h_LF) h_LF
  have k1 : Gives K (upd H130 t (.tup [.str "num", .int 999])) 1 1 S3 (.ref t) := gives_num hT (by decide) (by decide)
  clear hT x2
  generalize upd H130 t (.tup [.str "num", .int 999]) = H131 at R X k1 gless gf1 gf2 gf3 h_LF ⊢
  generalize V.ref t = b1 at k1 ⊢
  clear nt
  walk_at "rd"
  intro t nt
  have x2 : Ext [r] H131 (upd H131 t (.tup [.str "num", .int 999])) := Ext.new nt
  have hT : SqT K (upd H131 t (.tup [.str "num", .int 999])) t [.str "num", .int 999] := SqT.of upd_same
  replace R := R.ext0 (Ext.new (o := (.tup [.str "num", .int 999])) nt)
  replace X := X.trans x2
  replace gless := gless.ext x2
  replace gf1 := gf1.ext x2
  replace gf2 := gf2.ext x2
  replace gf3 := gf3.ext x2
  replace k1 := k1.ext x2
  replace h_LF := x2.lst (not_in_one n_h_LF) h_LF
  have k2 : Gives K (upd H131 t (.tup [.str "num", .int 999])) 1 1 S3 (.ref t) := gives_num hT (by decide) (by decide)
  clear hT x2
  generalize upd H131 t (.tup [.str "num", .int 999]) = H132 at R X k2 gless gf1 gf2 gf3 k1 h_LF ⊢
  generalize V.ref t = b2 at k2 ⊢
  clear nt
  walk_at "rd"
  intro t nt
  have x2 : Ext [r] H132 (upd H132 t (.tup [.str "plus", b1, b2])) := Ext.new nt
  have hT : SqT K (upd H132 t (.tup [.str "plus", b1, b2])) t [.str "plus", b1, b2] := SqT.of upd_same
  replace R := R.ext0 (Ext.new (o := (.tup [.str "plus", b1, b2])) nt)
  replace X := X.trans x2
  replace gless := gless.ext x2
  replace gf1 := gf1.ext x2
  replace gf2 := gf2.ext x2
  replace gf3 := gf3.ext x2
  replace k1 := k1.ext x2
  replace k2 := k2.ext x2
  replace h_LF := x2.lst (not_in_one n_h_LF) h_LF
  have gf4 : Gives K (upd H132 t (.tup [.str "plus", b1, b2])) 2 3 S3 (.ref t) := (gives_plus hT k1 k2).mono (by decide) (by decide) fun _ z => z
  clear hT x2
  generalize upd H132 t (.tup [.str "plus", b1, b2]) = H133 at R X gf4 gless gf1 gf2 gf3 k1 k2 h_LF ⊢
  generalize V.ref t = f4 at gf4 ⊢
  clear nt
  clear k1
  clear k2
  walk_at "rd"
  intro t nt
  have x2 : Ext [r] H133 (upd H133 t (.tup [.str "name", .int 2])) := Ext.new nt
  have hT : SqT K (upd H133 t (.tup [.str "name", .int 2])) t [.str "name", .int 2] := SqT.of upd_same
  replace R := R.ext0 (Ext.new (o := (.tup [.str "name", .int 2])) nt)
  replace X := X.trans x2
  replace gless := gless.ext x2
  replace gf1 := gf1.ext x2
  replace gf2 := gf2.ext x2
  replace gf3 := gf3.ext x2
  replace gf4 := gf4.ext x2
  replace h_LF := x2.lst (not_in_one n_h_LF) h_LF
  have gf5 : Gives K (upd H133 t (.tup [.str "name", .int 2])) 1 1 S3 (.ref t) := gives_nam hT (by decide) (by decide) (.inr (.inl rfl))
  clear hT x2
  generalize upd H133 t (.tup [.str "name", .int 2]) = H134 at R X gf5 gless gf1 gf2 gf3 gf4 h_LF ⊢
  generalize V.ref t = f5 at gf5 ⊢
  clear nt
  walk_at "rd"
  intro LG nl
  have x2 : Ext [r] H134 (upd H134 LG (.lst [f4, f5])) := Ext.new nl
  have n_h_LG : LG ≠ r := R.ne_new nl
  have s_LG : Off K s LG := R.off nl
  have o_LG : H LG = none := X.fresh1 R nl
  have h_LG : upd H134 LG (.lst [f4, f5]) LG = some (.lst [f4, f5]) := upd_same
  replace R := R.ext0 (Ext.new (o := (.lst [f4, f5])) nl)
  replace X := X.trans x2
  replace gless := gless.ext x2
  replace gf1 := gf1.ext x2
  replace gf2 := gf2.ext x2
  replace gf3 := gf3.ext x2
  replace gf4 := gf4.ext x2
  replace gf5 := gf5.ext x2
  replace h_LF := x2.lst (not_in_one n_h_LF) h_LF
  clear x2
  generalize upd H134 LG (.lst [f4, f5]) = H135 at R X h_LG gless gf1 gf2 gf3 gf4 gf5 h_LF ⊢
  clear nl
  walk_at "rd"
  refine ⟨LF, LG, _, _, rfl, rfl, h_LF, h_LG, (by show 5 ≤ sizeLine; decide), ?_⟩
  clear h_LF
  clear h_LG
  intro LM nl
  have x2 : Ext [r] H135 (upd H135 LM (.lst ([f1, f2, f3] ++ [f4, f5]))) := Ext.new nl
  have n_h_LM : LM ≠ r := R.ne_new nl
  have h_LM : upd H135 LM (.lst ([f1, f2, f3] ++ [f4, f5])) LM = some (.lst [f1, f2, f3, f4, f5]) := upd_same
  replace R := R.ext0 (Ext.new (o := (.lst ([f1, f2, f3] ++ [f4, f5]))) nl)
  replace X := X.trans x2
  replace gless := gless.ext x2
  replace gf1 := gf1.ext x2
  replace gf2 := gf2.ext x2
  replace gf3 := gf3.ext x2
  replace gf4 := gf4.ext x2
  replace gf5 := gf5.ext x2
  clear x2
  generalize upd H135 LM (.lst ([f1, f2, f3] ++ [f4, f5])) = H136 at R X h_LM gless gf1 gf2 gf3 gf4 gf5 ⊢
  clear nl
  walk_at "rd"
  refine ⟨r, s, 5, rfl, R, by decide, by decide, fun pk H137 pk_0 pk_1 R2 x2 => ?_⟩
  replace R := R2
  replace X := X.trans x2
  replace gless := gless.ext x2
  replace gf1 := gf1.ext x2
  replace gf2 := gf2.ext x2
  replace gf3 := gf3.ext x2
  replace gf4 := gf4.ext x2
  replace gf5 := gf5.ext x2
  replace h_LM := x2.lst (not_in_one n_h_LM) h_LM
  clear R2 x2
  obtain ⟨lw_pk, ml, hat⟩ := at_any (xs := [f1, f2, f3, f4, f5]) pk_0 pk_1
  have gl : Gives K H137 2 3 S3 lw_pk := by
    have ml : lw_pk = f1 ∨ lw_pk = f2 ∨ lw_pk = f3 ∨ lw_pk = f4 ∨ lw_pk = f5 := by simpa using ml
    rcases ml with rfl | rfl | rfl | rfl | rfl
    · exact gf1.mono (by decide) (by decide) fun _ z => z
    · exact gf2.mono (by decide) (by decide) fun _ z => z
    · exact gf3.mono (by decide) (by decide) fun _ z => z
    · exact gf4.mono (by decide) (by decide) fun _ z => z
    · exact gf5.mono (by decide) (by decide) fun _ z => z
  refine ⟨_, _, _, _, rfl, rfl, SqL.of h_LM, hat, ?_⟩
  clear hat ml
  clear gf1
  clear gf2
  clear gf3
  clear gf4
  clear gf5
  clear h_LM
  walk_at "rd"
  intro t nt
  have x2 : Ext [r] H137 (upd H137 t (.tup [.str "name", .int 3])) := Ext.new nt
  have hT : SqT K (upd H137 t (.tup [.str "name", .int 3])) t [.str "name", .int 3] := SqT.of upd_same
  replace R := R.ext0 (Ext.new (o := (.tup [.str "name", .int 3])) nt)
  replace X := X.trans x2
  replace gless := gless.ext x2
  replace gl := gl.ext x2
  have k1 : Gives K (upd H137 t (.tup [.str "name", .int 3])) 1 1 S3 (.ref t) := gives_nam hT (by decide) (by decide) (.inl rfl)
  clear hT x2
  generalize upd H137 t (.tup [.str "name", .int 3]) = H138 at R X k1 gless gl ⊢
  generalize V.ref t = c1 at k1 ⊢
  clear nt
  walk_at "rd"
  intro t nt
  have x2 : Ext [r] H138 (upd H138 t (.tup [.str "name", .int 2])) := Ext.new nt
  have hT : SqT K (upd H138 t (.tup [.str "name", .int 2])) t [.str "name", .int 2] := SqT.of upd_same
  replace R := R.ext0 (Ext.new (o := (.tup [.str "name", .int 2])) nt)
  replace X := X.trans x2
  replace gless := gless.ext x2
  replace gl := gl.ext x2
  replace k1 := k1.ext x2
  have k2 : Gives K (upd H138 t (.tup [.str "name", .int 2])) 1 1 S3 (.ref t) := gives_nam hT (by decide) (by decide) (.inr (.inl rfl))
  clear hT x2
  generalize upd H138 t (.tup [.str "name", .int 2]) = H139 at R X k2 gless gl k1 ⊢
  generalize V.ref t = c2 at k2 ⊢
  clear nt
  walk_at "rd"
  intro t nt
  have x2 : Ext [r] H139 (upd H139 t (.tup [.str "name", .int 2])) := Ext.new nt
  have hT : SqT K (upd H139 t (.tup [.str "name", .int 2])) t [.str "name", .int 2] := SqT.of upd_same
  replace R := R.ext0 (Ext.new (o := (.tup [.str "name", .int 2])) nt)
  replace X := X.trans x2
  replace gless := gless.ext x2
  replace gl := gl.ext x2
  replace k1 := k1.ext x2
  replace k2 := k2.ext x2
  have k3 : Gives K (upd H139 t (.tup [.str "name", .int 2])) 1 1 S3 (.ref t) := gives_nam hT (by decide) (by decide) (.inr (.inl rfl))
  clear hT x2
  generalize upd H139 t (.tup [.str "name", .int 2]) = H140 at R X k3 gless gl k1 k2 ⊢
  generalize V.ref t = c3 at k3 ⊢
  clear nt
  walk_at "rd"
  intro t nt
  have x2 : Ext [r] H140 (upd H140 t (.tup [.str "call", c2, c3])) := Ext.new nt
  have hT : SqT K (upd H140 t (.tup [.str "call", c2, c3])) t [.str "call", c2, c3] := SqT.of upd_same
  replace R := R.ext0 (Ext.new (o := (.tup [.str "call", c2, c3])) nt)
  replace X := X.trans x2
  replace gless := gless.ext x2
  replace gl := gl.ext x2
  replace k1 := k1.ext x2
  replace k2 := k2.ext x2
  replace k3 := k3.ext x2
  have k4 : Gives K (upd H140 t (.tup [.str "call", c2, c3])) 2 3 S3 (.ref t) := (gives_call hT k2 k3).mono (by decide) (by decide) fun _ z => z
  clear hT x2
  generalize upd H140 t (.tup [.str "call", c2, c3]) = H141 at R X k4 gless gl k1 k2 k3 ⊢
  generalize V.ref t = c4 at k4 ⊢
  clear nt
  clear k2
  clear k3
  walk_at "rd"
  intro t nt
  have x2 : Ext [r] H141 (upd H141 t (.tup [.str "call", c4, less])) := Ext.new nt
  have hT : SqT K (upd H141 t (.tup [.str "call", c4, less])) t [.str "call", c4, less] := SqT.of upd_same
  replace R := R.ext0 (Ext.new (o := (.tup [.str "call", c4, less])) nt)
  replace X := X.trans x2
  replace gless := gless.ext x2
  replace gl := gl.ext x2
  replace k1 := k1.ext x2
  replace k4 := k4.ext x2
  have k5 : Gives K (upd H141 t (.tup [.str "call", c4, less])) 3 7 S3 (.ref t) := (gives_call hT k4 gless).mono (by decide) (by decide) fun _ z => z
  clear hT x2
  generalize upd H141 t (.tup [.str "call", c4, less]) = H142 at R X k5 gless gl k1 k4 ⊢
  generalize V.ref t = c5 at k5 ⊢
  clear nt
  clear k4
  clear gless
  walk_at "rd"
  intro t nt
  have x2 : Ext [r] H142 (upd H142 t (.tup [.str "if", c1, c5, lw_pk])) := Ext.new nt
  have hT : SqT K (upd H142 t (.tup [.str "if", c1, c5, lw_pk])) t [.str "if", c1, c5, lw_pk] := SqT.of upd_same
  replace R := R.ext0 (Ext.new (o := (.tup [.str "if", c1, c5, lw_pk])) nt)
  replace X := X.trans x2
  replace gl := gl.ext x2
  replace k1 := k1.ext x2
  replace k5 := k5.ext x2
  have k6 : Gives K (upd H142 t (.tup [.str "if", c1, c5, lw_pk])) 4 12 S3 (.ref t) := (gives_if hT k1 k5 gl).mono (by decide) (by decide) fun _ z => z
  clear hT x2
  generalize upd H142 t (.tup [.str "if", c1, c5, lw_pk]) = H143 at R X k6 gl k1 k5 ⊢
  generalize V.ref t = c6 at k6 ⊢
  clear nt
  clear k1
  clear k5
  clear gl
  walk_at "rd"
  intro t nt
  have x2 : Ext [r] H143 (upd H143 t (.tup [.str "name", .int 1])) := Ext.new nt
  have hT : SqT K (upd H143 t (.tup [.str "name", .int 1])) t [.str "name", .int 1] := SqT.of upd_same
  replace R := R.ext0 (Ext.new (o := (.tup [.str "name", .int 1])) nt)
  replace X := X.trans x2
  replace k6 := k6.ext x2
  have m1 : Gives K (upd H143 t (.tup [.str "name", .int 1])) 1 1 S1 (.ref t) := gives_nam hT (by decide) (by decide) (.inl rfl)
  clear hT x2
  generalize upd H143 t (.tup [.str "name", .int 1]) = H144 at R X m1 k6 ⊢
  generalize V.ref t = d1 at m1 ⊢
  clear nt
  walk_at "rd"
  intro t nt
  have x2 : Ext [r] H144 (upd H144 t (.tup [.str "name", .int 1])) := Ext.new nt
  have hT : SqT K (upd H144 t (.tup [.str "name", .int 1])) t [.str "name", .int 1] := SqT.of upd_same
  replace R := R.ext0 (Ext.new (o := (.tup [.str "name", .int 1])) nt)
  replace X := X.trans x2
  replace k6 := k6.ext x2
  replace m1 := m1.ext x2
  have m2 : Gives K (upd H144 t (.tup [.str "name", .int 1])) 1 1 S1 (.ref t) := gives_nam hT (by decide) (by decide) (.inl rfl)
  clear hT x2
  generalize upd H144 t (.tup [.str "name", .int 1]) = H145 at R X m2 k6 m1 ⊢
  generalize V.ref t = d2 at m2 ⊢
  clear nt
  walk_at "rd"
  intro t nt
  have x2 : Ext [r] H145 (upd H145 t (.tup [.str "call", d1, d2])) := Ext.new nt
  have hT : SqT K (upd H145 t (.tup [.str "call", d1, d2])) t [.str "call", d1, d2] := SqT.of upd_same
  replace R := R.ext0 (Ext.new (o := (.tup [.str "call", d1, d2])) nt)
  replace X := X.trans x2
  replace k6 := k6.ext x2
  replace m1 := m1.ext x2
  replace m2 := m2.ext x2
  have m3 : Gives K (upd H145 t (.tup [.str "call", d1, d2])) 2 3 S1 (.ref t) := (gives_call hT m1 m2).mono (by decide) (by decide) fun _ z => z
  clear hT x2
  generalize upd H145 t (.tup [.str "call", d1, d2]) = H146 at R X m3 k6 m1 m2 ⊢
  generalize V.ref t = d3 at m3 ⊢
  clear nt
  clear m1
  clear m2
  walk_at "rd"
  refine ⟨r, s, 30, rfl, R, by decide, by decide, fun z H147 z_0 z_1 R2 x2 => ?_⟩
  replace R := R2
  replace X := X.trans x2
  replace k6 := k6.ext x2
  replace m3 := m3.ext x2
  clear R2 x2
  walk_at "rd"
  intro t nt
  have x2 : Ext [r] H147 (upd H147 t (.tup [.str "num", .int z])) := Ext.new nt
  have hT : SqT K (upd H147 t (.tup [.str "num", .int z])) t [.str "num", .int z] := SqT.of upd_same
  replace R := R.ext0 (Ext.new (o := (.tup [.str "num", .int z])) nt)
  replace X := X.trans x2
  replace k6 := k6.ext x2
  replace m3 := m3.ext x2
  have m4 : Gives K (upd H147 t (.tup [.str "num", .int z])) 1 1 S1 (.ref t) := gives_num hT z_0 (by omega)
  clear hT x2
  generalize upd H147 t (.tup [.str "num", .int z]) = H148 at R X m4 k6 m3 ⊢
  generalize V.ref t = d4 at m4 ⊢
  clear nt
  walk_at "rd"
  intro t nt
  have x2 : Ext [r] H148 (upd H148 t (.tup [.str "call", d3, d4])) := Ext.new nt
  have hT : SqT K (upd H148 t (.tup [.str "call", d3, d4])) t [.str "call", d3, d4] := SqT.of upd_same
  replace R := R.ext0 (Ext.new (o := (.tup [.str "call", d3, d4])) nt)
  replace X := X.trans x2
  replace k6 := k6.ext x2
  replace m3 := m3.ext x2
  replace m4 := m4.ext x2
  have m5 : Gives K (upd H148 t (.tup [.str "call", d3, d4])) 3 5 S1 (.ref t) := (gives_call hT m3 m4).mono (by decide) (by decide) fun _ z => z
  clear hT x2
  generalize upd H148 t (.tup [.str "call", d3, d4]) = H149 at R X m5 k6 m3 m4 ⊢
  generalize V.ref t = d5 at m5 ⊢
  clear nt
  clear m3
  clear m4
  walk_at "rd"
  intro t nt
  have x2 : Ext [r] H149 (upd H149 t (.tup [.str "fun", .int 3, c6])) := Ext.new nt
  have hT : SqT K (upd H149 t (.tup [.str "fun", .int 3, c6])) t [.str "fun", .int 3, c6] := SqT.of upd_same
  replace R := R.ext0 (Ext.new (o := (.tup [.str "fun", .int 3, c6])) nt)
  replace X := X.trans x2
  replace k6 := k6.ext x2
  replace m5 := m5.ext x2
  have n1 : Gives K (upd H149 t (.tup [.str "fun", .int 3, c6])) 5 13 S2 (.ref t) := (gives_fun hT (by decide) (by decide) k6).mono (by decide) (by decide) fun _ z => z
  clear hT x2
  generalize upd H149 t (.tup [.str "fun", .int 3, c6]) = H150 at R X n1 k6 m5 ⊢
  generalize V.ref t = e1 at n1 ⊢
  clear nt
  clear k6
  walk_at "rd"
  intro t nt
  have x2 : Ext [r] H150 (upd H150 t (.tup [.str "fun", .int 2, e1])) := Ext.new nt
  have hT : SqT K (upd H150 t (.tup [.str "fun", .int 2, e1])) t [.str "fun", .int 2, e1] := SqT.of upd_same
  replace R := R.ext0 (Ext.new (o := (.tup [.str "fun", .int 2, e1])) nt)
  replace X := X.trans x2
  replace m5 := m5.ext x2
  replace n1 := n1.ext x2
  have n2 : Gives K (upd H150 t (.tup [.str "fun", .int 2, e1])) 6 14 (fun _ => False) (.ref t) := (gives_fun hT (by decide) (by decide) n1).mono (by decide) (by decide) fun _ z => z
  clear hT x2
  generalize upd H150 t (.tup [.str "fun", .int 2, e1]) = H151 at R X n2 m5 n1 ⊢
  generalize V.ref t = e2 at n2 ⊢
  clear nt
  clear n1
  walk_at "rd"
  intro t nt
  have x2 : Ext [r] H151 (upd H151 t (.tup [.str "let", .int 1, e2, d5])) := Ext.new nt
  have hT : SqT K (upd H151 t (.tup [.str "let", .int 1, e2, d5])) t [.str "let", .int 1, e2, d5] := SqT.of upd_same
  replace R := R.ext0 (Ext.new (o := (.tup [.str "let", .int 1, e2, d5])) nt)
  replace X := X.trans x2
  replace m5 := m5.ext x2
  replace n2 := n2.ext x2
  have go1 : Gives K (upd H151 t (.tup [.str "let", .int 1, e2, d5])) 8 57 (fun _ => False) (.ref t) := (gives_let hT (by decide) (by decide) n2 m5).mono (by decide) (by decide) fun _ z => z
  clear hT x2
  generalize upd H151 t (.tup [.str "let", .int 1, e2, d5]) = H152 at R X go1 m5 n2 ⊢
  generalize V.ref t = o1 at go1 ⊢
  clear nt
  exact q o1 H152 R X go1
end
end Env
end
section
set_option Elab.async false
set_option linter.all false
set_option maxRecDepth 100000
set_option maxHeartbeats 4000000
namespace Env
open PySem L2
local macro_rules | `(tactic| walk_at "side") => `(tactic| first
  | assumption
  | ((try dsimp only); omega)
  | decide
  | exact ⟨by omega, by omega⟩
  | exact .inr ⟨by decide, by decide⟩
  | exact .inl ⟨by omega, by omega⟩)
local macro_rules | `(tactic| walk_at "rd1") => `(tactic| first
  | with_reducible refine Exists.intro _ (And.intro rfl ?_)
  | refine Exists.intro _ (And.intro rfl ?_)
  | refine ⟨_, _, rfl, rfl, ?_⟩
  | refine And.intro rfl ?_
  | refine ⟨_, _, _, _, rfl, rfl, SqL.of (by assumption), rfl, ?_⟩
  | refine ⟨_, _, _, _, rfl, rfl, SqL.of upd_same, rfl, ?_⟩
  | refine And.intro (szb rfl) ?_
  | refine And.intro (Or.inl (And.intro rfl (Exists.intro _ (SqL.of (by assumption))))) ?_
  | refine Or.inl (Exists.intro _ (And.intro rfl ?_))
  | refine Or.inr (Exists.intro _ (And.intro rfl ?_))
  | refine And.intro (by walk_at "side") ?_
  | refine ⟨_, _, _, _, rfl, rfl, (by assumption), rfl, ?_⟩
  | refine ⟨_, _, _, _, rfl, rfl, upd_same, rfl, ?_⟩
  | refine ⟨_, _, rfl, .inl (SqL.of (by assumption)), ?_⟩
  | refine ⟨_, _, rfl, .inl (SqL.of upd_same), ?_⟩
  | refine ⟨_, _, rfl, .inl (by assumption), ?_⟩)
local macro_rules | `(tactic| walk_at "rd") => `(tactic| repeat walk_at "rd1")
local macro_rules | `(tactic| walk_at "ds") => `(tactic| dsimp only [tNil, tCons, tC, tNoPart, tPart, tCB, tOp, tTest, tB, tCall, List.nil_append, List.cons_append, List.append_nil])
local macro_rules | `(tactic| walk_at "tup") => `(tactic| (intro t nt))

section
variable {P : Program} {w : World} {K : PySem.W.Frag} {mg : Str → Option Value} {base : Heap}
theorem ok_l_program (T : Tx K mg) : FnOk P w K mg base CX0 10 T.l_program.f T.l_program.d P_l_program (spProgram K) := by
  refine T.l_program.F.ok sc_l_program (fun vs H Q E h => ?_) (fun cdv A outer s' H vs Q EE hr hsp => ?_)
  · obtain ⟨r, s, m, rfl, _⟩ := h
    rfl
  obtain ⟨r, s, m, rfl, R, q⟩ := hsp
  refine ⟨_, (pss_cons (ps_set (i := 2) sc_l_program.nd rfl (Or.inl rfl) (pe_ix (ixL (K := K) rfl) (pe_lst (pa_cons pe_int (pa_cons pe_int (pa_cons pe_int (pa_cons pe_int (pa_cons pe_int pa_nil)))))) (pe_cl T.l_taken (ok_l_taken T) hr (by first | decide | omega) (by rfl) (pa_cons (pv 0) (pa_cons pe_int pa_nil))) (fun _ _ => rfl)))
    (pss_cons (ps_set (i := 3) sc_l_program.nd rfl (Or.inl rfl) (pe_cl T.l_taken (ok_l_taken T) hr (by first | decide | omega) (by rfl) (pa_cons (pv 0) (pa_cons pe_int pa_nil))))
    (pss_cons (ps_if (PW.pt (pw_and (pt_cmpR op_gt (pv 3) pe_int (nomark _)) (pw_and1 (pt_cmpR op_lt (pv 3) pe_int (nomark _))))) (pss_one (ps_ret (pe_cl T.l_makers (ok_l_makers T) hr (by first | decide | omega) (by rfl) (pa_cons (pv 0) pa_nil)))) pss_nil)
    (pss_cons (ps_if (PW.pt (pw_and (pt_cmpR op_gt (pv 3) pe_int (nomark _)) (pw_and1 (pt_cmpR op_lt (pv 3) pe_int (nomark _))))) (pss_one (ps_ret (pe_ifExp (pt_cmpR op_eq (pv 3) pe_int (nomark _)) (pe_cl T.l_broad (ok_l_broad T) hr (by first | decide | omega) (by rfl) (pa_cons (pv 0) pa_nil)) (pe_cl T.l_far (ok_l_far T) hr (by first | decide | omega) (by rfl) (pa_cons (pv 0) pa_nil))))) pss_nil)
    (pss_cons (ps_set (i := 4) sc_l_program.nd rfl (Or.inl rfl) (pe_cl T.l_e (ok_l_e T 4) hr (by first | decide | omega) (by rfl) (pa_cons (pv 0) (pa_cons pe_dnewK (pa_cons (pv 2) (pa_cons (pe_op op_add pe_int (pe_callTy (T := "int") call_int1 (by rfl) T.B.b_int (by decide +kernel) (pa_cons (pe_cmpR op_lt (pv 3) pe_int (nomark _)) pa_nil))) (pa_cons (pe_lst (pa_cons (pv 1) pa_nil)) pa_nil)))))))
    (pss_cons (ps_set (i := 5) sc_l_program.nd rfl (Or.inl rfl) (pe_tup (pa_cons pe_str (pa_cons pe_int (pa_cons (pe_tup (pa_cons pe_str (pa_cons (pe_tup (pa_cons pe_str (pa_cons pe_int pa_nil))) (pa_cons (pe_tup (pa_cons pe_str (pa_cons pe_int pa_nil))) pa_nil)))) pa_nil)))))
    (pss_cons (ps_set (i := 6) sc_l_program.nd rfl (Or.inl rfl) (pe_ix (ixL (K := K) rfl) (pe_lst (pa_cons (pe_tup (pa_cons pe_str (pa_cons pe_int pa_nil))) (pa_cons (pe_tup (pa_cons pe_str (pa_cons (pv 5) (pa_cons (pv 5) pa_nil)))) (pa_cons (pe_tup (pa_cons pe_str (pa_cons pe_int (pa_cons (pe_tup (pa_cons pe_str (pa_cons pe_int pa_nil))) (pa_cons (pe_tup (pa_cons pe_str (pa_cons pe_int pa_nil))) pa_nil))))) pa_nil)))) (pe_cl T.l_taken (ok_l_taken T) hr (by first | decide | omega) (by rfl) (pa_cons (pv 0) (pa_cons pe_int pa_nil))) (fun _ _ => rfl)))
    (pss_cons (ps_if (pt_cmpR op_eq (pv 3) pe_int (nomark _)) (pss_one (ps_set (i := 4) sc_l_program.nd rfl (Or.inl rfl) (pe_tup (pa_cons pe_str (pa_cons pe_int (pa_cons (pv 4) (pa_cons (pe_tup (pa_cons pe_str (pa_cons (pe_tup (pa_cons pe_str (pa_cons pe_int pa_nil))) (pa_cons (pv 6) pa_nil)))) pa_nil))))))) pss_nil)
    (pss_cons (ps_if (pt_cmpR op_eq (pv 3) pe_int (nomark _)) (pss_one (ps_set (i := 4) sc_l_program.nd rfl (Or.inl rfl) (pe_tup (pa_cons pe_str (pa_cons pe_int (pa_cons (pv 4) (pa_cons (pe_tup (pa_cons pe_str (pa_cons (pv 5) (pa_cons (pv 5) pa_nil)))) pa_nil))))))) pss_nil)
    (pss_cons (ps_if (pt_cmpR op_eq (pv 3) pe_int (nomark _)) (pss_one (ps_set (i := 4) sc_l_program.nd rfl (Or.inl rfl) (pe_tup (pa_cons pe_str (pa_cons (pv 4) (pa_cons (pv 6) pa_nil)))))) pss_nil)
    (pss_cons (ps_if (pt_cmpR op_eq (pv 3) pe_int (nomark _)) (pss_one (ps_set (i := 4) sc_l_program.nd rfl (Or.inl rfl) (pe_tup (pa_cons pe_str (pa_cons (pv 4) (pa_cons (pe_tup (pa_cons pe_str (pa_cons (pe_cl T.l_taken (ok_l_taken T) hr (by first | decide | omega) (by rfl) (pa_cons (pv 0) (pa_cons pe_int pa_nil))) pa_nil))) pa_nil)))))) pss_nil)
    (pss_cons (ps_if (pt_cmpR op_eq (pv 3) pe_int (nomark _)) (pss_one (ps_set (i := 4) sc_l_program.nd rfl (Or.inl rfl) (pe_tup (pa_cons pe_str (pa_cons (pv 4) (pa_cons (pv 5) (pa_cons (pe_tup (pa_cons pe_str (pa_cons pe_int pa_nil))) pa_nil))))))) pss_nil)
    (pss_one (ps_ret (pe_ifExp (pt_cmpR op_lt (pe_cl T.l_size (ok_l_size T 8) hr (by first | decide | omega) (by rfl) (pa_cons (pv 4) pa_nil)) pe_int (nomark _)) (pv 4) (pe_tup (pa_cons pe_str (pa_cons pe_int (pa_cons (pe_tup (pa_cons pe_str (pa_cons pe_int pa_nil))) (pa_cons (pe_tup (pa_cons pe_str (pa_cons pe_int (pa_cons (pe_tup (pa_cons pe_str (pa_cons pe_int pa_nil))) pa_nil)))) pa_nil)))))))))))))))))))), ?_⟩
  have X := Ext.refl [r] H
  walk_at "rd"
  intro l nl
  walk_at "rd"
  refine pick (E := E0) (zs := [0, 1, 1, 2, 3]) R nl rfl (by decide) (by decide) fun wt H1 mz R2 x2 => ?_
  have hwt : 0 ≤ wt ∧ wt ≤ 3 := by
    have : wt = 0 ∨ wt = 1 ∨ wt = 1 ∨ wt = 2 ∨ wt = 3 := by simpa using mz
    omega
  clear mz R nl
  have R := R2
  replace X := X.trans x2
  clear R2 x2
  walk_at "rd"
  refine ⟨r, s, 16, rfl, R, by decide, by decide, fun way H101 way_0 way_1 R2 x2 => ?_⟩
  replace R := R2
  replace X := X.trans x2
  clear R2 x2
  have makes : ∀ sp : Sp, sp = spMakers K → sp [.ref r] H101 Q E0 := fun sp hsp => by
    rw [hsp]
    exact ⟨r, s, rfl, R, fun v H' R' x' g' => q v H' R' (X.trans x') g'⟩
  dsimp only [gName]
  refine seq_cut (fun σ' H' => H101 = H' ∧ σ' = [some (.ref r), some (.int m), some (.int wt), some (.int way), none, none, none]) (fun rest => ?main) ?rest
  case main =>
    walk_at "rd"
    refine ite2 (fun c => ?_) (fun c => ?_)
    · walk_at "rd"
      refine ite2 (fun c => ?_) (fun c => ?_)
      · walk_at "rd"
        exact makes _ rfl
      · exact rest [some (.ref r), some (.int m), some (.int wt), some (.int way), none, none, none] H101 ⟨rfl, rfl⟩
    · exact rest [some (.ref r), some (.int m), some (.int wt), some (.int way), none, none, none] H101 ⟨rfl, rfl⟩
  case rest =>
  rintro _ _ ⟨rfl, rfl⟩
  refine seq_cut (fun σ' H' => H101 = H' ∧ σ' = [some (.ref r), some (.int m), some (.int wt), some (.int way), none, none, none]) (fun rest => ?main) ?rest
  case main =>
    walk_at "rd"
    refine ite2 (fun c => ?_) (fun c => ?_)
    · walk_at "rd"
      refine ite2 (fun c => ?_) (fun c => ?_)
      · walk_at "rd"
        refine ite2 (fun c => ?_) (fun c => ?_)
        · walk_at "rd"
          exact makes _ rfl
        · walk_at "rd"
          exact makes _ rfl
      · exact rest [some (.ref r), some (.int m), some (.int wt), some (.int way), none, none, none] H101 ⟨rfl, rfl⟩
    · exact rest [some (.ref r), some (.int m), some (.int wt), some (.int way), none, none, none] H101 ⟨rfl, rfl⟩
  case rest =>
  rintro _ _ ⟨rfl, rfl⟩
  clear makes
  walk_at "rd"
  intro p np
  have y1 : Ext [] H101 (upd H101 p (.dK [])) := Ext.new np
  have hp : ScAt (upd H101 p (.dK [])) p [] := upd_same
  replace R := R.ext0 y1
  replace X := X.trans (y1.to (ns := [r]))
  generalize upd H101 p (.dK []) = HP at y1 hp R X ⊢
  walk_at "rd"
  generalize hdp : (if decide (way < 11) = true then (1 : Int) else 0) = dp
  have bdp : dp ≤ 1 := by
    rw [← hdp]
    rcases cond01 (decide (way < 11)) with z | z <;> rw [z] <;> decide
  intro b nb
  have nbr := R.ne_new nb
  have ob := R.off nb
  have eb := X.fresh1 R nb
  have y2 : Ext [] HP (upd HP b (.lst [.int m])) := Ext.new nb
  have hb : upd HP b (.lst [.int m]) b = some (.lst [.int m]) := upd_same
  replace hp := hp.ext y2
  replace R := R.ext0 y2
  replace X := X.trans (y2.to (ns := [r]))
  generalize upd HP b (.lst [.int m]) = HB at y2 hb hp R X ⊢
  walk_at "rd"
  refine ⟨r, s, p, b, wt, 5 + dp, [], rfl, R, ⟨hp, by show 0 < 40; decide, fun j h => (dom_nil h).elim⟩, by decide, hwt.1, hwt.2, by show 5 + dp ≤ (4 : Int) + 2; omega, ⟨nbr, ob, m, hb⟩, fun v0 H2 e0 R2 x2 _ te eh eo => ?_⟩
  have g0 : Prg K H2 way [] v0 := ⟨e0, te, eo.mono (fun j h => dom_nil h), by omega, fun _ => eh⟩
  replace X := Ext.of_box x2 X eb
  replace R := R2
  clear R2 x2 te eh eo hp hb y2 nb nbr ob eb y1 np bdp hdp hwt
  walk_at "rd"
  intro t nt
  have x2 : Ext [r] H2 (upd H2 t (.tup [.str "name", .int 0])) := Ext.new nt
  have hT : SqT K (upd H2 t (.tup [.str "name", .int 0])) t [.str "name", .int 0] := SqT.of upd_same
  replace R := R.ext0 (Ext.new (o := (.tup [.str "name", .int 0])) nt)
  replace X := X.trans x2
  replace g0 := g0.ext x2
  have k1 : Gives K (upd H2 t (.tup [.str "name", .int 0])) 1 1 (fun j => j = 0 ∨ False) (.ref t) := gives_nam hT (by decide) (by decide) (.inl rfl)
  clear hT x2
  generalize upd H2 t (.tup [.str "name", .int 0]) = H102 at R X k1 g0 ⊢
  generalize V.ref t = a1 at k1 ⊢
  clear nt
  walk_at "rd"
  intro t nt
  have x2 : Ext [r] H102 (upd H102 t (.tup [.str "name", .int 0])) := Ext.new nt
  have hT : SqT K (upd H102 t (.tup [.str "name", .int 0])) t [.str "name", .int 0] := SqT.of upd_same
  replace R := R.ext0 (Ext.new (o := (.tup [.str "name", .int 0])) nt)
  replace X := X.trans x2
  replace g0 := g0.ext x2
  replace k1 := k1.ext x2
  have k2 : Gives K (upd H102 t (.tup [.str "name", .int 0])) 1 1 (fun j => j = 0 ∨ False) (.ref t) := gives_nam hT (by decide) (by decide) (.inl rfl)
  clear hT x2
  generalize upd H102 t (.tup [.str "name", .int 0]) = H103 at R X k2 g0 k1 ⊢
  generalize V.ref t = a2 at k2 ⊢
  clear nt
  walk_at "rd"
  intro t nt
  have x2 : Ext [r] H103 (upd H103 t (.tup [.str "call", a1, a2])) := Ext.new nt
  have hT : SqT K (upd H103 t (.tup [.str "call", a1, a2])) t [.str "call", a1, a2] := SqT.of upd_same
  replace R := R.ext0 (Ext.new (o := (.tup [.str "call", a1, a2])) nt)
  replace X := X.trans x2
  replace g0 := g0.ext x2
  replace k1 := k1.ext x2
  replace k2 := k2.ext x2
  have k3 : Gives K (upd H103 t (.tup [.str "call", a1, a2])) 2 3 (fun j => j = 0 ∨ False) (.ref t) := (gives_call hT k1 k2).mono (by decide) (by decide) fun _ z => z
  clear hT x2
  generalize upd H103 t (.tup [.str "call", a1, a2]) = H104 at R X k3 g0 k1 k2 ⊢
  generalize V.ref t = a3 at k3 ⊢
  clear nt
  clear k1
  clear k2
  walk_at "rd"
  intro t nt
  have x2 : Ext [r] H104 (upd H104 t (.tup [.str "fun", .int 0, a3])) := Ext.new nt
  have hT : SqT K (upd H104 t (.tup [.str "fun", .int 0, a3])) t [.str "fun", .int 0, a3] := SqT.of upd_same
  replace R := R.ext0 (Ext.new (o := (.tup [.str "fun", .int 0, a3])) nt)
  replace X := X.trans x2
  replace g0 := g0.ext x2
  replace k3 := k3.ext x2
  have gi : Gives K (upd H104 t (.tup [.str "fun", .int 0, a3])) 3 4 (fun _ => False) (.ref t) := (gives_fun hT (by decide) (by decide) k3).mono (by decide) (by decide) fun _ z => z
  clear hT x2
  generalize upd H104 t (.tup [.str "fun", .int 0, a3]) = H105 at R X gi g0 k3 ⊢
  generalize V.ref t = vi at gi ⊢
  clear nt
  clear k3
  walk_at "rd"
  intro t nt
  have x2 : Ext [r] H105 (upd H105 t (.tup [.str "num", .int 1])) := Ext.new nt
  have hT : SqT K (upd H105 t (.tup [.str "num", .int 1])) t [.str "num", .int 1] := SqT.of upd_same
  replace R := R.ext0 (Ext.new (o := (.tup [.str "num", .int 1])) nt)
  replace X := X.trans x2
  replace g0 := g0.ext x2
  replace gi := gi.ext x2
  have m1 : Gives K (upd H105 t (.tup [.str "num", .int 1])) 1 1 (fun _ => False) (.ref t) := gives_num hT (by decide) (by decide)
  clear hT x2
  generalize upd H105 t (.tup [.str "num", .int 1]) = H106 at R X m1 g0 gi ⊢
  generalize V.ref t = b1 at m1 ⊢
  clear nt
  walk_at "rd"
  intro t nt
  have x2 : Ext [r] H106 (upd H106 t (.tup [.str "call", vi, vi])) := Ext.new nt
  have hT : SqT K (upd H106 t (.tup [.str "call", vi, vi])) t [.str "call", vi, vi] := SqT.of upd_same
  replace R := R.ext0 (Ext.new (o := (.tup [.str "call", vi, vi])) nt)
  replace X := X.trans x2
  replace g0 := g0.ext x2
  replace gi := gi.ext x2
  replace m1 := m1.ext x2
  have m2 : Gives K (upd H106 t (.tup [.str "call", vi, vi])) 4 9 (fun _ => False) (.ref t) := (gives_call hT gi gi).mono (by decide) (by decide) fun _ z => z
  clear hT x2
  generalize upd H106 t (.tup [.str "call", vi, vi]) = H107 at R X m2 g0 gi m1 ⊢
  generalize V.ref t = b2 at m2 ⊢
  clear nt
  walk_at "rd"
  intro t nt
  have x2 : Ext [r] H107 (upd H107 t (.tup [.str "num", .int 3])) := Ext.new nt
  have hT : SqT K (upd H107 t (.tup [.str "num", .int 3])) t [.str "num", .int 3] := SqT.of upd_same
  replace R := R.ext0 (Ext.new (o := (.tup [.str "num", .int 3])) nt)
  replace X := X.trans x2
  replace g0 := g0.ext x2
  replace gi := gi.ext x2
  replace m1 := m1.ext x2
  replace m2 := m2.ext x2
  have m3 : Gives K (upd H107 t (.tup [.str "num", .int 3])) 1 1 (fun _ => False) (.ref t) := gives_num hT (by decide) (by decide)
  clear hT x2
  generalize upd H107 t (.tup [.str "num", .int 3]) = H108 at R X m3 g0 gi m1 m2 ⊢
  generalize V.ref t = b3 at m3 ⊢
  clear nt
  walk_at "rd"
  intro t nt
  have x2 : Ext [r] H108 (upd H108 t (.tup [.str "name", .int 2])) := Ext.new nt
  have hT : SqT K (upd H108 t (.tup [.str "name", .int 2])) t [.str "name", .int 2] := SqT.of upd_same
  replace R := R.ext0 (Ext.new (o := (.tup [.str "name", .int 2])) nt)
  replace X := X.trans x2
  replace g0 := g0.ext x2
  replace gi := gi.ext x2
  replace m1 := m1.ext x2
  replace m2 := m2.ext x2
  replace m3 := m3.ext x2
  have m4 : Gives K (upd H108 t (.tup [.str "name", .int 2])) 1 1 (fun j => j = 2 ∨ False) (.ref t) := gives_nam hT (by decide) (by decide) (.inl rfl)
  clear hT x2
  generalize upd H108 t (.tup [.str "name", .int 2]) = H109 at R X m4 g0 gi m1 m2 m3 ⊢
  generalize V.ref t = b4 at m4 ⊢
  clear nt
  walk_at "rd"
  intro t nt
  have x2 : Ext [r] H109 (upd H109 t (.tup [.str "let", .int 2, b3, b4])) := Ext.new nt
  have hT : SqT K (upd H109 t (.tup [.str "let", .int 2, b3, b4])) t [.str "let", .int 2, b3, b4] := SqT.of upd_same
  replace R := R.ext0 (Ext.new (o := (.tup [.str "let", .int 2, b3, b4])) nt)
  replace X := X.trans x2
  replace g0 := g0.ext x2
  replace gi := gi.ext x2
  replace m1 := m1.ext x2
  replace m2 := m2.ext x2
  replace m3 := m3.ext x2
  replace m4 := m4.ext x2
  have m5 : Gives K (upd H109 t (.tup [.str "let", .int 2, b3, b4])) 2 3 (fun _ => False) (.ref t) := (gives_let hT (by decide) (by decide) m3 m4).mono (by decide) (by decide) fun _ z => z
  clear hT x2
  generalize upd H109 t (.tup [.str "let", .int 2, b3, b4]) = H110 at R X m5 g0 gi m1 m2 m3 m4 ⊢
  generalize V.ref t = b5 at m5 ⊢
  clear nt
  clear m3
  clear m4
  walk_at "rd"
  intro LL nl
  have x2 : Ext [r] H110 (upd H110 LL (.lst [b1, b2, b5])) := Ext.new nl
  have n_h_LL : LL ≠ r := R.ne_new nl
  have s_LL : Off K s LL := R.off nl
  have o_LL : H LL = none := X.fresh1 R nl
  have h_LL : upd H110 LL (.lst [b1, b2, b5]) LL = some (.lst [b1, b2, b5]) := upd_same
  replace R := R.ext0 (Ext.new (o := (.lst [b1, b2, b5])) nl)
  replace X := X.trans x2
  replace g0 := g0.ext x2
  replace gi := gi.ext x2
  replace m1 := m1.ext x2
  replace m2 := m2.ext x2
  replace m5 := m5.ext x2
  clear x2
  generalize upd H110 LL (.lst [b1, b2, b5]) = H111 at R X h_LL g0 gi m1 m2 m5 ⊢
  clear nl
  walk_at "rd"
  refine ⟨r, s, 3, rfl, R, by decide, by decide, fun pk H112 pk_0 pk_1 R2 x2 => ?_⟩
  replace R := R2
  replace X := X.trans x2
  replace g0 := g0.ext x2
  replace gi := gi.ext x2
  replace m1 := m1.ext x2
  replace m2 := m2.ext x2
  replace m5 := m5.ext x2
  replace h_LL := x2.lst (not_in_one n_h_LL) h_LL
  clear R2 x2
  obtain ⟨lw_pk, ml, hat⟩ := at_any (xs := [b1, b2, b5]) pk_0 pk_1
  have gs : Gives K H112 4 9 (fun _ => False) lw_pk := by
    have ml : lw_pk = b1 ∨ lw_pk = b2 ∨ lw_pk = b5 := by simpa using ml
    rcases ml with rfl | rfl | rfl
    · exact m1.mono (by decide) (by decide) fun _ z => z
    · exact m2.mono (by decide) (by decide) fun _ z => z
    · exact m5.mono (by decide) (by decide) fun _ z => z
  refine ⟨_, _, _, _, rfl, rfl, SqL.of h_LL, hat, ?_⟩
  clear hat ml
  clear m1
  clear m2
  clear m5
  clear h_LL
  dsimp only [gName]
  refine seq_cut (fun σ' H' => ∃ v, σ' = [some (.ref r), some (.int m), some (.int wt), some (.int way), some v, some vi, some lw_pk] ∧ RowAt K r s H' ∧ Ext [r] H H' ∧ Gives K H' 3 4 (fun _ => False) vi ∧ Gives K H' 4 9 (fun _ => False) lw_pk ∧ Prg K H' way [11] v) (fun rest => ?main) ?rest
  case main =>
    walk_at "rd"
    refine ite2 (fun c => ?_) (fun c => ?_)
    · have ew : way = 11 := V.int.inj (cdec c)
      obtain ⟨mm, gp⟩ := g0.gives (by rw [ew]; decide)
      walk_at "rd"
      intro t nt
      have x2 : Ext [r] H112 (upd H112 t (.tup [.str "num", .int 1])) := Ext.new nt
      have hT : SqT K (upd H112 t (.tup [.str "num", .int 1])) t [.str "num", .int 1] := SqT.of upd_same
      replace R := R.ext0 (Ext.new (o := (.tup [.str "num", .int 1])) nt)
      replace X := X.trans x2
      replace g0 := g0.ext x2
      replace gi := gi.ext x2
      replace gs := gs.ext x2
      replace gp := gp.ext x2
      have k1 : Gives K (upd H112 t (.tup [.str "num", .int 1])) 1 1 (fun j => j = 1 ∨ False) (.ref t) := gives_num hT (by decide) (by decide)
      clear hT x2
      generalize upd H112 t (.tup [.str "num", .int 1]) = H113 at R X k1 g0 gi gs gp ⊢
      generalize V.ref t = c1 at k1 ⊢
      clear nt
      have gs1 := gs.mono (S' := fun j => j = 1 ∨ False) (Nat.le_refl _) (Nat.le_refl _) fun _ z => z.elim
      walk_at "rd"
      intro t nt
      have x2 : Ext [r] H113 (upd H113 t (.tup [.str "call", c1, lw_pk])) := Ext.new nt
      have hT : SqT K (upd H113 t (.tup [.str "call", c1, lw_pk])) t [.str "call", c1, lw_pk] := SqT.of upd_same
      replace R := R.ext0 (Ext.new (o := (.tup [.str "call", c1, lw_pk])) nt)
      replace X := X.trans x2
      replace g0 := g0.ext x2
      replace gi := gi.ext x2
      replace gs := gs.ext x2
      replace gp := gp.ext x2
      replace k1 := k1.ext x2
      replace gs1 := gs1.ext x2
      have k2 : Gives K (upd H113 t (.tup [.str "call", c1, lw_pk])) 5 11 (fun j => j = 1 ∨ False) (.ref t) := (gives_call hT k1 gs1).mono (by decide) (by decide) fun _ z => z
      clear hT x2
      generalize upd H113 t (.tup [.str "call", c1, lw_pk]) = H114 at R X k2 g0 gi gs gp k1 gs1 ⊢
      generalize V.ref t = c2 at k2 ⊢
      clear nt
      walk_at "rd"
      intro t nt
      have x2 : Ext [r] H114 (upd H114 t (.tup [.str "let", .int 1, v0, c2])) := Ext.new nt
      have hT : SqT K (upd H114 t (.tup [.str "let", .int 1, v0, c2])) t [.str "let", .int 1, v0, c2] := SqT.of upd_same
      replace R := R.ext0 (Ext.new (o := (.tup [.str "let", .int 1, v0, c2])) nt)
      replace X := X.trans x2
      replace g0 := g0.ext x2
      replace gi := gi.ext x2
      replace gs := gs.ext x2
      replace gp := gp.ext x2
      replace k1 := k1.ext x2
      replace gs1 := gs1.ext x2
      replace k2 := k2.ext x2
      have k3 : Gives K (upd H114 t (.tup [.str "let", .int 1, v0, c2])) 8 (1 + mm + 11) (fun _ => False) (.ref t) := (gives_let hT (by decide) (by decide) gp k2).mono (by decide) (Nat.le_refl _) fun _ z => z
      clear hT x2
      generalize upd H114 t (.tup [.str "let", .int 1, v0, c2]) = H115 at R X k3 g0 gi gs gp k1 gs1 k2 ⊢
      generalize V.ref t = c3 at k3 ⊢
      clear nt
      exact rest [some (.ref r), some (.int m), some (.int wt), some (.int way), some c3, some vi, some lw_pk] H115 ⟨c3, rfl, R, X, gi, gs, Prg.of k3 (Nat.le_refl _) (by rw [ew]; decide)⟩
    · exact rest [some (.ref r), some (.int m), some (.int wt), some (.int way), some v0, some vi, some lw_pk] H112 ⟨v0, rfl, R, X, gi, gs, g0.skip fun z y => z (show way ∈ ([] ++ [11] : List Int) from List.mem_append_left _ y)⟩
  case rest =>
  clear R X gi gs g0 v0
  rintro _ HC11 ⟨v0, rfl, R, X, gi, gs, g0⟩
  refine seq_cut (fun σ' H' => ∃ v, σ' = [some (.ref r), some (.int m), some (.int wt), some (.int way), some v, some vi, some lw_pk] ∧ RowAt K r s H' ∧ Ext [r] H H' ∧ Gives K H' 3 4 (fun _ => False) vi ∧ Gives K H' 4 9 (fun _ => False) lw_pk ∧ Prg K H' way [11, 15] v) (fun rest => ?main) ?rest
  case main =>
    walk_at "rd"
    refine ite2 (fun c => ?_) (fun c => ?_)
    · have ew : way = 15 := V.int.inj (cdec c)
      obtain ⟨mm, gp⟩ := g0.gives (by rw [ew]; decide)
      have gi1 := gi.mono (S' := fun j => j = 1 ∨ False) (Nat.le_refl _) (Nat.le_refl _) fun _ z => z.elim
      walk_at "rd"
      intro t nt
      have x2 : Ext [r] HC11 (upd HC11 t (.tup [.str "call", vi, vi])) := Ext.new nt
      have hT : SqT K (upd HC11 t (.tup [.str "call", vi, vi])) t [.str "call", vi, vi] := SqT.of upd_same
      replace R := R.ext0 (Ext.new (o := (.tup [.str "call", vi, vi])) nt)
      replace X := X.trans x2
      replace g0 := g0.ext x2
      replace gi := gi.ext x2
      replace gs := gs.ext x2
      replace gp := gp.ext x2
      replace gi1 := gi1.ext x2
      have k2 : Gives K (upd HC11 t (.tup [.str "call", vi, vi])) 5 11 (fun j => j = 1 ∨ False) (.ref t) := (gives_call hT gi1 gi1).mono (by decide) (by decide) fun _ z => z
      clear hT x2
      generalize upd HC11 t (.tup [.str "call", vi, vi]) = H116 at R X k2 g0 gi gs gp gi1 ⊢
      generalize V.ref t = c2 at k2 ⊢
      clear nt
      walk_at "rd"
      intro t nt
      have x2 : Ext [r] H116 (upd H116 t (.tup [.str "let", .int 1, v0, c2])) := Ext.new nt
      have hT : SqT K (upd H116 t (.tup [.str "let", .int 1, v0, c2])) t [.str "let", .int 1, v0, c2] := SqT.of upd_same
      replace R := R.ext0 (Ext.new (o := (.tup [.str "let", .int 1, v0, c2])) nt)
      replace X := X.trans x2
      replace g0 := g0.ext x2
      replace gi := gi.ext x2
      replace gs := gs.ext x2
      replace gp := gp.ext x2
      replace gi1 := gi1.ext x2
      replace k2 := k2.ext x2
      have k3 : Gives K (upd H116 t (.tup [.str "let", .int 1, v0, c2])) 8 (1 + mm + 11) (fun _ => False) (.ref t) := (gives_let hT (by decide) (by decide) gp k2).mono (by decide) (Nat.le_refl _) fun _ z => z
      clear hT x2
      generalize upd H116 t (.tup [.str "let", .int 1, v0, c2]) = H117 at R X k3 g0 gi gs gp gi1 k2 ⊢
      generalize V.ref t = c3 at k3 ⊢
      clear nt
      exact rest [some (.ref r), some (.int m), some (.int wt), some (.int way), some c3, some vi, some lw_pk] H117 ⟨c3, rfl, R, X, gi, gs, Prg.of k3 (Nat.le_refl _) (by rw [ew]; decide)⟩
    · exact rest [some (.ref r), some (.int m), some (.int wt), some (.int way), some v0, some vi, some lw_pk] HC11 ⟨v0, rfl, R, X, gi, gs, g0.skip fun z y => z (show way ∈ ([11] ++ [15] : List Int) from List.mem_append_left _ y)⟩
  case rest =>
  clear R X gi gs g0 v0
  rintro _ HC15 ⟨v0, rfl, R, X, gi, gs, g0⟩
  refine seq_cut (fun σ' H' => ∃ v, σ' = [some (.ref r), some (.int m), some (.int wt), some (.int way), some v, some vi, some lw_pk] ∧ RowAt K r s H' ∧ Ext [r] H H' ∧ Gives K H' 3 4 (fun _ => False) vi ∧ Gives K H' 4 9 (fun _ => False) lw_pk ∧ Prg K H' way [11, 15, 14] v) (fun rest => ?main) ?rest
  case main =>
    walk_at "rd"
    refine ite2 (fun c => ?_) (fun c => ?_)
    · have ew : way = 14 := V.int.inj (cdec c)
      obtain ⟨mm, gp⟩ := g0.gives (by rw [ew]; decide)
      walk_at "rd"
      intro t nt
      have x2 : Ext [r] HC15 (upd HC15 t (.tup [.str "plus", v0, lw_pk])) := Ext.new nt
      have hT : SqT K (upd HC15 t (.tup [.str "plus", v0, lw_pk])) t [.str "plus", v0, lw_pk] := SqT.of upd_same
      replace R := R.ext0 (Ext.new (o := (.tup [.str "plus", v0, lw_pk])) nt)
      replace X := X.trans x2
      replace g0 := g0.ext x2
      replace gi := gi.ext x2
      replace gs := gs.ext x2
      replace gp := gp.ext x2
      have k3 : Gives K (upd HC15 t (.tup [.str "plus", v0, lw_pk])) 8 (1 + mm + 9) (fun _ => False) (.ref t) := (gives_plus hT gp gs).mono (by decide) (Nat.le_refl _) fun _ z => z
      clear hT x2
      generalize upd HC15 t (.tup [.str "plus", v0, lw_pk]) = H118 at R X k3 g0 gi gs gp ⊢
      generalize V.ref t = c3 at k3 ⊢
      clear nt
      exact rest [some (.ref r), some (.int m), some (.int wt), some (.int way), some c3, some vi, some lw_pk] H118 ⟨c3, rfl, R, X, gi, gs, Prg.of k3 (Nat.le_refl _) (by rw [ew]; decide)⟩
    · exact rest [some (.ref r), some (.int m), some (.int wt), some (.int way), some v0, some vi, some lw_pk] HC15 ⟨v0, rfl, R, X, gi, gs, g0.skip fun z y => z (show way ∈ ([11, 15] ++ [14] : List Int) from List.mem_append_left _ y)⟩
  case rest =>
  clear R X gi gs g0 v0
  rintro _ HC14 ⟨v0, rfl, R, X, gi, gs, g0⟩
  refine seq_cut (fun σ' H' => ∃ v, σ' = [some (.ref r), some (.int m), some (.int wt), some (.int way), some v, some vi, some lw_pk] ∧ RowAt K r s H' ∧ Ext [r] H H' ∧ Gives K H' 3 4 (fun _ => False) vi ∧ Gives K H' 4 9 (fun _ => False) lw_pk ∧ Prg K H' way [11, 15, 14, 13] v) (fun rest => ?main) ?rest
  case main =>
    walk_at "rd"
    refine ite2 (fun c => ?_) (fun c => ?_)
    · have ew : way = 13 := V.int.inj (cdec c)
      obtain ⟨mm, gp⟩ := g0.gives (by rw [ew]; decide)
      walk_at "rd"
      refine ⟨r, s, 9, rfl, R, by decide, by decide, fun dd H119 dd_0 dd_1 R2 x2 => ?_⟩
      replace R := R2
      replace X := X.trans x2
      replace g0 := g0.ext x2
      replace gi := gi.ext x2
      replace gs := gs.ext x2
      replace gp := gp.ext x2
      clear R2 x2
      walk_at "rd"
      intro t nt
      have x2 : Ext [r] H119 (upd H119 t (.tup [.str "num", .int dd])) := Ext.new nt
      have hT : SqT K (upd H119 t (.tup [.str "num", .int dd])) t [.str "num", .int dd] := SqT.of upd_same
      replace R := R.ext0 (Ext.new (o := (.tup [.str "num", .int dd])) nt)
      replace X := X.trans x2
      replace g0 := g0.ext x2
      replace gi := gi.ext x2
      replace gs := gs.ext x2
      replace gp := gp.ext x2
      have k1 : Gives K (upd H119 t (.tup [.str "num", .int dd])) 1 1 (fun _ => False) (.ref t) := gives_num hT dd_0 (by omega)
      clear hT x2
      generalize upd H119 t (.tup [.str "num", .int dd]) = H120 at R X k1 g0 gi gs gp ⊢
      generalize V.ref t = c1 at k1 ⊢
      clear nt
      walk_at "rd"
      intro t nt
      have x2 : Ext [r] H120 (upd H120 t (.tup [.str "call", v0, c1])) := Ext.new nt
      have hT : SqT K (upd H120 t (.tup [.str "call", v0, c1])) t [.str "call", v0, c1] := SqT.of upd_same
      replace R := R.ext0 (Ext.new (o := (.tup [.str "call", v0, c1])) nt)
      replace X := X.trans x2
      replace g0 := g0.ext x2
      replace gi := gi.ext x2
      replace gs := gs.ext x2
      replace gp := gp.ext x2
      replace k1 := k1.ext x2
      have k3 : Gives K (upd H120 t (.tup [.str "call", v0, c1])) 8 (1 + mm + 1) (fun _ => False) (.ref t) := (gives_call hT gp k1).mono (by decide) (Nat.le_refl _) fun _ z => z
      clear hT x2
      generalize upd H120 t (.tup [.str "call", v0, c1]) = H121 at R X k3 g0 gi gs gp k1 ⊢
      generalize V.ref t = c3 at k3 ⊢
      clear nt
      exact rest [some (.ref r), some (.int m), some (.int wt), some (.int way), some c3, some vi, some lw_pk] H121 ⟨c3, rfl, R, X, gi, gs, Prg.of k3 (Nat.le_refl _) (by rw [ew]; decide)⟩
    · exact rest [some (.ref r), some (.int m), some (.int wt), some (.int way), some v0, some vi, some lw_pk] HC14 ⟨v0, rfl, R, X, gi, gs, g0.skip fun z y => z (show way ∈ ([11, 15, 14] ++ [13] : List Int) from List.mem_append_left _ y)⟩
  case rest =>
  clear R X gi gs g0 v0
  rintro _ HC13 ⟨v0, rfl, R, X, gi, gs, g0⟩
  refine seq_cut (fun σ' H' => ∃ v, σ' = [some (.ref r), some (.int m), some (.int wt), some (.int way), some v, some vi, some lw_pk] ∧ RowAt K r s H' ∧ Ext [r] H H' ∧ Gives K H' 3 4 (fun _ => False) vi ∧ Gives K H' 4 9 (fun _ => False) lw_pk ∧ Prg K H' way [11, 15, 14, 13, 12] v) (fun rest => ?main) ?rest
  case main =>
    walk_at "rd"
    refine ite2 (fun c => ?_) (fun c => ?_)
    · have ew : way = 12 := V.int.inj (cdec c)
      obtain ⟨mm, gp⟩ := g0.gives (by rw [ew]; decide)
      walk_at "rd"
      intro t nt
      have x2 : Ext [r] HC13 (upd HC13 t (.tup [.str "num", .int 1])) := Ext.new nt
      have hT : SqT K (upd HC13 t (.tup [.str "num", .int 1])) t [.str "num", .int 1] := SqT.of upd_same
      replace R := R.ext0 (Ext.new (o := (.tup [.str "num", .int 1])) nt)
      replace X := X.trans x2
      replace g0 := g0.ext x2
      replace gi := gi.ext x2
      replace gs := gs.ext x2
      replace gp := gp.ext x2
      have k1 : Gives K (upd HC13 t (.tup [.str "num", .int 1])) 1 1 (fun _ => False) (.ref t) := gives_num hT (by decide) (by decide)
      clear hT x2
      generalize upd HC13 t (.tup [.str "num", .int 1]) = H122 at R X k1 g0 gi gs gp ⊢
      generalize V.ref t = c1 at k1 ⊢
      clear nt
      walk_at "rd"
      intro t nt
      have x2 : Ext [r] H122 (upd H122 t (.tup [.str "if", v0, vi, c1])) := Ext.new nt
      have hT : SqT K (upd H122 t (.tup [.str "if", v0, vi, c1])) t [.str "if", v0, vi, c1] := SqT.of upd_same
      replace R := R.ext0 (Ext.new (o := (.tup [.str "if", v0, vi, c1])) nt)
      replace X := X.trans x2
      replace g0 := g0.ext x2
      replace gi := gi.ext x2
      replace gs := gs.ext x2
      replace gp := gp.ext x2
      replace k1 := k1.ext x2
      have k3 : Gives K (upd H122 t (.tup [.str "if", v0, vi, c1])) 8 (1 + mm + 4 + 1) (fun _ => False) (.ref t) := (gives_if hT gp gi k1).mono (by decide) (Nat.le_refl _) fun _ z => z
      clear hT x2
      generalize upd H122 t (.tup [.str "if", v0, vi, c1]) = H123 at R X k3 g0 gi gs gp k1 ⊢
      generalize V.ref t = c3 at k3 ⊢
      clear nt
      exact rest [some (.ref r), some (.int m), some (.int wt), some (.int way), some c3, some vi, some lw_pk] H123 ⟨c3, rfl, R, X, gi, gs, Prg.of k3 (Nat.le_refl _) (by rw [ew]; decide)⟩
    · exact rest [some (.ref r), some (.int m), some (.int wt), some (.int way), some v0, some vi, some lw_pk] HC13 ⟨v0, rfl, R, X, gi, gs, g0.skip fun z y => z (show way ∈ ([11, 15, 14, 13] ++ [12] : List Int) from List.mem_append_left _ y)⟩
  case rest =>
  clear R X gi gs g0 v0
  rintro _ HC12 ⟨v0, rfl, R, X, gi, gs, g0⟩

  obtain ⟨e, te, eo, eh, _⟩ := g0
  walk_at "rd"
  refine ⟨_, e, rfl, te, eh, fun H3 x3 => ?_⟩
  walk_at "rd"
  refine ite2 (fun c => ?_) (fun c => ?_)
  · have c0 := cdec c
    walk_at "rd"
    exact q v0 H3 (R.ext0 x3) (X.trans x3.to) ⟨e, TE.ext x3 te, eh, by omega, eo⟩
  · replace R := R.ext0 x3
    replace X := X.trans (x3.to (ns := [r]))
    clear te eo eh gi gs x3
    walk_at "rd"
    intro t nt
    have x2 : Ext [r] H3 (upd H3 t (.tup [.str "num", .int 5])) := Ext.new nt
    have hT : SqT K (upd H3 t (.tup [.str "num", .int 5])) t [.str "num", .int 5] := SqT.of upd_same
    replace R := R.ext0 (Ext.new (o := (.tup [.str "num", .int 5])) nt)
    replace X := X.trans x2
    have k1 : Gives K (upd H3 t (.tup [.str "num", .int 5])) 1 1 (fun _ => False) (.ref t) := gives_num hT (by decide) (by decide)
    clear hT x2
    generalize upd H3 t (.tup [.str "num", .int 5]) = H124 at R X k1 ⊢
    generalize V.ref t = c1 at k1 ⊢
    clear nt
    walk_at "rd"
    intro t nt
    have x2 : Ext [r] H124 (upd H124 t (.tup [.str "name", .int 1])) := Ext.new nt
    have hT : SqT K (upd H124 t (.tup [.str "name", .int 1])) t [.str "name", .int 1] := SqT.of upd_same
    replace R := R.ext0 (Ext.new (o := (.tup [.str "name", .int 1])) nt)
    replace X := X.trans x2
    replace k1 := k1.ext x2
    have k2 : Gives K (upd H124 t (.tup [.str "name", .int 1])) 1 1 (fun j => j = 2 ∨ (j = 1 ∨ False)) (.ref t) := gives_nam hT (by decide) (by decide) (.inr (.inl rfl))
    clear hT x2
    generalize upd H124 t (.tup [.str "name", .int 1]) = H125 at R X k2 k1 ⊢
    generalize V.ref t = c2 at k2 ⊢
    clear nt
    walk_at "rd"
    intro t nt
    have x2 : Ext [r] H125 (upd H125 t (.tup [.str "fun", .int 2, c2])) := Ext.new nt
    have hT : SqT K (upd H125 t (.tup [.str "fun", .int 2, c2])) t [.str "fun", .int 2, c2] := SqT.of upd_same
    replace R := R.ext0 (Ext.new (o := (.tup [.str "fun", .int 2, c2])) nt)
    replace X := X.trans x2
    replace k1 := k1.ext x2
    replace k2 := k2.ext x2
    have k3 : Gives K (upd H125 t (.tup [.str "fun", .int 2, c2])) 2 2 (fun j => j = 1 ∨ False) (.ref t) := (gives_fun hT (by decide) (by decide) k2).mono (by decide) (by decide) fun _ z => z
    clear hT x2
    generalize upd H125 t (.tup [.str "fun", .int 2, c2]) = H126 at R X k3 k1 k2 ⊢
    generalize V.ref t = c3 at k3 ⊢
    clear nt
    walk_at "rd"
    intro t nt
    have x2 : Ext [r] H126 (upd H126 t (.tup [.str "let", .int 1, c1, c3])) := Ext.new nt
    have hT : SqT K (upd H126 t (.tup [.str "let", .int 1, c1, c3])) t [.str "let", .int 1, c1, c3] := SqT.of upd_same
    replace R := R.ext0 (Ext.new (o := (.tup [.str "let", .int 1, c1, c3])) nt)
    replace X := X.trans x2
    replace k1 := k1.ext x2
    replace k2 := k2.ext x2
    replace k3 := k3.ext x2
    have k4 : Gives K (upd H126 t (.tup [.str "let", .int 1, c1, c3])) 8 57 (fun _ => False) (.ref t) := (gives_let hT (by decide) (by decide) k1 k3).mono (by decide) (by decide) fun _ z => z
    clear hT x2
    generalize upd H126 t (.tup [.str "let", .int 1, c1, c3]) = H127 at R X k4 k1 k2 k3 ⊢
    generalize V.ref t = c4 at k4 ⊢
    clear nt
    exact q c4 H127 R X k4
end
end Env
end
section
set_option Elab.async false
set_option linter.all false
set_option maxRecDepth 100000
set_option maxHeartbeats 4000000
namespace Env
open PySem L2
local macro_rules | `(tactic| walk_at "side") => `(tactic| first
  | assumption
  | ((try dsimp only); omega)
  | decide
  | exact ⟨by omega, by omega⟩
  | exact .inr ⟨by decide, by decide⟩
  | exact .inl ⟨by omega, by omega⟩)
local macro_rules | `(tactic| walk_at "rd1") => `(tactic| first
  | with_reducible refine Exists.intro _ (And.intro rfl ?_)
  | refine Exists.intro _ (And.intro rfl ?_)
  | refine ⟨_, _, rfl, rfl, ?_⟩
  | refine And.intro rfl ?_
  | refine ⟨_, _, _, _, rfl, rfl, SqL.of (by assumption), rfl, ?_⟩
  | refine ⟨_, _, _, _, rfl, rfl, SqL.of upd_same, rfl, ?_⟩
  | refine And.intro (szb rfl) ?_
  | refine And.intro (Or.inl (And.intro rfl (Exists.intro _ (SqL.of (by assumption))))) ?_
  | refine Or.inl (Exists.intro _ (And.intro rfl ?_))
  | refine Or.inr (Exists.intro _ (And.intro rfl ?_))
  | refine And.intro (by walk_at "side") ?_
  | refine ⟨_, _, _, _, rfl, rfl, (by assumption), rfl, ?_⟩
  | refine ⟨_, _, _, _, rfl, rfl, upd_same, rfl, ?_⟩
  | refine ⟨_, _, rfl, .inl (SqL.of (by assumption)), ?_⟩
  | refine ⟨_, _, rfl, .inl (SqL.of upd_same), ?_⟩
  | refine ⟨_, _, rfl, .inl (by assumption), ?_⟩)
local macro_rules | `(tactic| walk_at "rd") => `(tactic| repeat walk_at "rd1")
local macro_rules | `(tactic| walk_at "ds") => `(tactic| dsimp only [tNil, tCons, tC, tNoPart, tPart, tCB, tOp, tTest, tB, tCall, List.nil_append, List.cons_append, List.append_nil])
local macro_rules | `(tactic| walk_at "tup") => `(tactic| (intro t nt))

section
variable {P : Program} {w : World} {K : PySem.W.Frag} {mg : Str → Option Value} {base : Heap}
theorem ok_l_parts (T : Tx K mg) : FnOk P w K mg base CX0 1 T.l_parts.f T.l_parts.d P_l_parts (spParts K) := by
  refine T.l_parts.F.ok sc_l_parts (fun vs H Q E h => ?_) (fun cdv A outer s' H vs Q EE hr hsp => ?_)
  · obtain ⟨a, x, xs, rfl, _⟩ := h
    rfl
  obtain ⟨a, x, xs, rfl, ha, hl, hp, q⟩ := hsp
  refine ⟨_, (pss_one (ps_ret (pe_lc (own := [("_law_part", 1)]) (g := gName 1) (by rfl) sc_l_parts.nd (piT (K := K) rfl (pe_slice (slT (K := K) rfl) (pv 0) (po_some pe_int) po_none)) (blkOk_by (N := N_l_parts) (sc := defScope s_l_parts) (by decide +kernel)) (fun _ _ _ _ _ => (pg_name (i := 1) sc_l_parts.nd rfl (Or.inl rfl))) (fun _ _ _ _ _ => pts_one (pt_val (pe_callB (id := "isinstance") (isiK (K := K) rfl) (by rfl) T.B.b_isinstance (by decide +kernel) (pa_cons (pv 1) (pa_cons (pe_bltn (v := .ty "tuple") (u := .type "tuple") (by rfl) T.B.b_tuple (by decide +kernel) rfl) pa_nil))))) (fun _ _ _ _ _ => (pv 1))))), ?_⟩
  walk_at "rd"
  dsimp only [tNoPart]
  refine sl1 ha fun T1 nT => ?_
  have x1 := Ext.new (ms := []) (o := .tup xs) nT
  refine ⟨T1, rfl, ⟨_, SqT.of upd_same⟩, fun D nD => ?_⟩
  have nD0 := new_old nD
  have x2 : Ext [] H (upd (upd H T1 (.tup xs)) D (.lst [])) := x1.nw nD
  refine lc_tup (K := K) (a := T1) (xs := xs) (fun i H' => Ext [] H H' ∧ H' T1 = some (.tup xs) ∧ H' D = some (.lst ((xs.take i).filter isR)))
    ⟨x2, by rw [upd_ne (new_ne nD).symm]; exact upd_same, upd_same⟩ (fun i H' _ ⟨_, h, _⟩ => SqT.of h) ?_ ?_
  · rintro i y H' hy ⟨g1, g2, g3⟩
    have il : i < xs.length := (List.getElem?_eq_some_iff.mp hy).1
    have my : y ∈ xs := List.mem_of_getElem? hy
    have et : xs.take (i + 1) = xs.take i ++ [y] := by rw [List.take_succ, hy]; rfl
    refine ⟨rfl, ?_⟩
    walk_at "rd"
    rcases (hp y my).ext g1 with ⟨n, rfl⟩ | ⟨z, rfl⟩ | ⟨b, ys, rfl, hb⟩
    · walk_at "ds"
      refine isi_int ?_
      refine ⟨_, rfl, g1, g2, ?_⟩
      rw [g3, et, List.filter_append]
      simp [isR]
    · walk_at "ds"
      refine isi_str ?_
      refine ⟨_, rfl, g1, g2, ?_⟩
      rw [g3, et, List.filter_append]
      simp [isR]
    · walk_at "ds"
      refine isi_tup hb ?_
      refine ⟨_, rfl, ?_⟩
      refine ⟨_, rfl, ?_⟩
      refine ⟨_, g3, small1000 (Nat.le_trans (List.length_filter_le _ _) (by rw [List.length_take]; omega)), g1.mut nD0, by rw [upd_ne (new_ne nD).symm]; exact g2, ?_⟩
      rw [upd_same, et, List.filter_append]
      rfl
  · rintro H' ⟨g1, g2, g3⟩
    rw [List.take_length] at g3
    exact q D H' g1 nD0 g3
end
section
variable {P : Program} {w : World} {K : PySem.W.Frag} {mg : Str → Option Value} {base : Heap}
theorem ok_l_count_step (T : Tx K mg) (n : Nat) (G_l_count : FnOk P w K mg base CX0 (n + 2) T.l_count.f T.l_count.d P_l_count (spCount K n)) :
    FnOk P w K mg base CX0 (n + 3) T.l_count.f T.l_count.d P_l_count (spCount K (n + 1)) := by
  refine T.l_count.F.ok sc_l_count (fun vs H Q E h => ?_) (fun cdv A outer s' H vs Q X hr hsp => ?_)
  · obtain ⟨v, e, rfl, _⟩ := h
    rfl
  obtain ⟨v, e, rfl, te, eh, q⟩ := hsp
  refine ⟨_, (pss_one (ps_ret (pe_op op_add (pe_callTy (T := "int") call_int1 (by rfl) T.B.b_int (by decide +kernel) (pa_cons (pe_cmpR (inS (K := K) rfl) (pe_ix (ixT (K := K) rfl) (pv 0) pe_int (fun _ _ => rfl)) (pe_tup (pa_cons pe_str (pa_cons pe_str pa_nil))) (by rfl)) pa_nil)) (pe_callB (id := "sum") (sumK (K := K) rfl rfl) (by rfl) T.B.b_sum (by decide +kernel) (pa_cons (pe_lc (own := [("_law_part", 1)]) (g := gName 1) (tt := tYes) (by rfl) sc_l_count.nd (piL (K := K) rfl (pe_cl T.l_parts (ok_l_parts T) hr (by first | decide | omega) (by rfl) (pa_cons (pv 0) pa_nil))) (blkOk_by (N := N_l_count) (sc := defScope s_l_count) (by decide +kernel)) (fun _ _ _ _ _ => (pg_name (i := 1) sc_l_count.nd rfl (Or.inl rfl))) (fun _ _ _ _ _ => pts_nil) (fun _ _ _ _ _ => (pe_cl T.l_count (G_l_count) hr (by first | decide | omega) (by rfl) (pa_cons (pv 1) pa_nil)))) pa_nil))))), ?_⟩
  obtain ⟨p, vs, rfl, hp, hi⟩ := te.node
  have hel := e.its_len
  have hvl := hi.len
  walk_at "rd"
  refine ⟨p, _, 0, _, rfl, rfl, hp, at_head, ?_⟩
  walk_at "rd"
  intro t nt
  have x1 := Ext.new (ms := []) (o := .tup [.str "let", .str "fun"]) nt
  refine ⟨t, _, rfl, .inr (SqT.of upd_same), rfl, by decide +kernel, ?_⟩
  walk_at "rd"
  refine ⟨p, _, vs, rfl, x1.seqT hp, by omega, (fun v hv => (hi.pl v hv).ext x1), fun L H2 x2 nL hL => ?_⟩
  have tk := (hi.ext (x1.trans x2)).kids
  have hkl := kids_len e.its
  have hkm : ∀ c ∈ e.kids, c.hgt ≤ n := fun c hc => E.its_hgt eh (kids_mem hc)
  refine ⟨L, rfl, ⟨_, SqL.of hL⟩, fun D nD => ?_⟩
  have nD0 : H D = none := (x1.trans x2).fresh0 nD
  have nDL : D ≠ L := fun z => by rw [z, hL] at nD; cases nD
  have hfl := tk.len
  refine lc_list (K := K) (a := L) (xs := vs.filter isR) (fun i H' => ∃ zs : List Int, Ext [] H2 H' ∧ H' D = some (.lst (zs.map V.int)) ∧ zs = (e.kids.take i).map fun c => (c.sites : Int))
    ⟨[], Ext.new nD, upd_same, rfl⟩ (fun i H' _ ⟨_, x, _⟩ => SqL.of (x.lst (fun z => nomatch z) hL)) ?_ ?_
  · rintro i y H' hy ⟨zs, g1, g2, g3⟩
    obtain ⟨c, hc, tc⟩ := (tk.ext g1).at hy
    have hzl : zs.length ≤ 3 := by
      have : (e.kids.take i).length ≤ e.kids.length := by rw [List.length_take]; omega
      rw [g3, List.length_map]
      unfold E.kids at *
      omega
    refine ⟨rfl, ?_⟩
    walk_at "rd"
    refine ⟨_, c, rfl, tc, hkm c (List.mem_of_getElem? hc), fun H3 x3 => ?_⟩
    refine ⟨_, x3.lst (fun z => nomatch z) g2, by rw [List.length_map]; exact small1000 (by omega), zs ++ [(c.sites : Int)], (g1.trans x3).mut nD, by rw [upd_same, List.map_append]; rfl, ?_⟩
    rw [g3, List.take_succ, show e.kids[i]? = some c from hc, List.map_append]
    rfl
  · rintro H' ⟨zs, g1, g2, g3⟩
    walk_at "rd"
    refine ⟨D, zs, rfl, SqL.of g2, ?_⟩
    walk_at "rd"
    have e1 : e.kids.take (vs.filter isR).length = e.kids := by
      rw [hfl]
      exact List.take_length
    rw [e1] at g3
    have q1 := q H' ((x1.trans x2).trans g1)
    rw [Env.E.sites_kids, ← g3] at q1
    have e2 : (if (if false = true then !inV (V.str e.word) [V.str (Str.ofString "let"), V.str (Str.ofString "fun")] else inV (V.str e.word) [V.str (Str.ofString "let"), V.str (Str.ofString "fun")]) = true then (1 : Int) else 0) = bI e.binds := by
      rw [if_neg Bool.false_ne_true, word_in]
      rfl
    rw [← e2] at q1
    exact q1
theorem ok_l_count (T : Tx K mg) : ∀ n : Nat, FnOk P w K mg base CX0 (n + 2) T.l_count.f T.l_count.d P_l_count (spCount K n)
  | 0 => (fn_never 2).imp fun vs H Q E ⟨v, e, _, _, h, _⟩ => by cases e <;> simp [Env.E.hgt] at h
  | n + 1 => ok_l_count_step T n (ok_l_count T n)
end
end Env
end
section
set_option Elab.async false
set_option linter.all false
set_option maxRecDepth 100000
set_option maxHeartbeats 4000000
namespace Env
open PySem L2
local macro_rules | `(tactic| walk_at "side") => `(tactic| first
  | assumption
  | ((try dsimp only); omega)
  | decide
  | exact ⟨by omega, by omega⟩
  | exact .inr ⟨by decide, by decide⟩
  | exact .inl ⟨by omega, by omega⟩)
local macro_rules | `(tactic| walk_at "rd1") => `(tactic| first
  | with_reducible refine Exists.intro _ (And.intro rfl ?_)
  | refine Exists.intro _ (And.intro rfl ?_)
  | refine ⟨_, _, rfl, rfl, ?_⟩
  | refine And.intro rfl ?_
  | refine ⟨_, _, _, _, rfl, rfl, SqL.of (by assumption), rfl, ?_⟩
  | refine ⟨_, _, _, _, rfl, rfl, SqL.of upd_same, rfl, ?_⟩
  | refine And.intro (szb rfl) ?_
  | refine And.intro (Or.inl (And.intro rfl (Exists.intro _ (SqL.of (by assumption))))) ?_
  | refine Or.inl (Exists.intro _ (And.intro rfl ?_))
  | refine Or.inr (Exists.intro _ (And.intro rfl ?_))
  | refine And.intro (by walk_at "side") ?_
  | refine ⟨_, _, _, _, rfl, rfl, (by assumption), rfl, ?_⟩
  | refine ⟨_, _, _, _, rfl, rfl, upd_same, rfl, ?_⟩
  | refine ⟨_, _, rfl, .inl (SqL.of (by assumption)), ?_⟩
  | refine ⟨_, _, rfl, .inl (SqL.of upd_same), ?_⟩
  | refine ⟨_, _, rfl, .inl (by assumption), ?_⟩)
local macro_rules | `(tactic| walk_at "rd") => `(tactic| repeat walk_at "rd1")
local macro_rules | `(tactic| walk_at "ds") => `(tactic| dsimp only [tNil, tCons, tC, tNoPart, tPart, tCB, tOp, tTest, tB, tCall, List.nil_append, List.cons_append, List.append_nil])
local macro_rules | `(tactic| walk_at "tup") => `(tactic| (intro t nt))

section
variable {P : Program} {w : World} {K : PySem.W.Frag} {mg : Str → Option Value} {base : Heap}
theorem ok_l_marked_step (T : Tx K mg) (d : Nat) (G_l_marked : FnOk P w K mg base CX0 (d + 11) T.l_marked.f T.l_marked.d P_l_marked (spMarked K d)) :
    FnOk P w K mg base CX0 (d + 12) T.l_marked.f T.l_marked.d P_l_marked (spMarked K (d + 1)) := by
  refine T.l_marked.F.ok sc_l_marked (fun vs H Q E h => ?_) (fun cdv A outer s' H vs Q X hr hsp => ?_)
  · obtain ⟨v, e, n, rfl, _⟩ := h
    rfl
  obtain ⟨v, e, n, rfl, te, eh, hd, n0, q⟩ := hsp
  refine ⟨_, (pss_cons (ps_set (i := 2) sc_l_marked.nd rfl (Or.inl rfl) (pe_ifExp (pt_cmpR (inS (K := K) rfl) (pe_ix (ixT (K := K) rfl) (pv 0) pe_int (fun _ _ => rfl)) (pe_tup (pa_cons pe_str (pa_cons pe_str pa_nil))) (by rfl)) (pv 1) (pe_op op_sub pe_int pe_int)))
    (pss_cons (ps_set (i := 3) sc_l_marked.nd rfl (Or.inl rfl) (pe_op op_add (pv 1) (pe_callTy (T := "int") call_int1 (by rfl) T.B.b_int (by decide +kernel) (pa_cons (pe_cmpR op_ge (pv 2) pe_int (nomark _)) pa_nil))))
    (pss_cons (ps_set (i := 4) sc_l_marked.nd rfl (Or.inl rfl) (pe_lst (pa_cons (pv 2) (pa_cons (pe_ix (ixT (K := K) rfl) (pv 0) pe_int (fun _ _ => rfl)) pa_nil))))
    (pss_cons (ps_for PassesOwn.never rfl (piT (K := K) rfl (pe_slice (slT (K := K) rfl) (pv 0) (po_some pe_int) po_none)) (pg_name (i := 5) sc_l_marked.nd rfl (Or.inl rfl)) (pss_one (ps_if (pt_val (pe_callB (id := "isinstance") (isiK (K := K) rfl) (by rfl) T.B.b_isinstance (by decide +kernel) (pa_cons (pv 5) (pa_cons (pe_bltn (v := .ty "tuple") (u := .type "tuple") (by rfl) T.B.b_tuple (by decide +kernel) rfl) pa_nil)))) (pss_cons (ps_expr (pe_bm PySem.F.plainAttrs_list PySem.F.slot_list_append PySem.F.type_list_append mt_append (pv 4) (pa_cons (pe_cl T.l_marked (G_l_marked) hr (by first | decide | omega) (by rfl) (pa_cons (pv 5) (pa_cons (pv 3) pa_nil))) pa_nil)))
    (pss_one (ps_set (i := 3) sc_l_marked.nd rfl (Or.inl rfl) (pe_op op_add (pv 3) (pe_cl T.l_count (ok_l_count T 8) hr (by first | decide | omega) (by rfl) (pa_cons (pv 5) pa_nil)))))) (pss_one (ps_expr (pe_bm PySem.F.plainAttrs_list PySem.F.slot_list_append PySem.F.type_list_append mt_append (pv 4) (pa_cons (pv 5) pa_nil)))))))
    (pss_one (ps_ret (pe_callTy (T := "tuple") call_tuple_of (by rfl) T.B.b_tuple (by decide +kernel) (pa_cons (pv 4) pa_nil)))))))), ?_⟩
  obtain ⟨p, vs, rfl, hp, hi⟩ := te.node
  have hel := e.its_len
  have hvl := hi.len
  refine seq_cut (fun σ' H' => Ext [] H H' ∧ σ' = [some (.ref p), some (.int n), some (.int (e.here n)), none, none, none]) (fun rest => ?main) ?rest
  case main =>
    walk_at "rd"
    refine ⟨p, _, 0, _, rfl, rfl, hp, at_head, ?_⟩
    walk_at "rd"
    intro t nt
    have x1 := Ext.new (ms := []) (o := .tup [.str "let", .str "fun"]) nt
    refine ⟨t, _, rfl, .inr (SqT.of upd_same), rfl, by decide +kernel, ?_⟩
    walk_at "rd"
    have hw := word_in e
    refine ite2 (fun c => ?_) (fun c => ?_)
    · have cb : e.binds = true := by rw [← hw]; exact c
      have eh : e.here n = n := by unfold Env.E.here; rw [cb]; rfl
      refine ⟨_, rfl, ?_⟩
      exact rest [some (.ref p), some (.int n), some (.int n), none, none, none] _ ⟨x1, by rw [eh]⟩
    · have cb : e.binds = false := by rw [← hw]; exact Bool.eq_false_iff.mpr c
      have eh : e.here n = 0 - 1 := by unfold Env.E.here; rw [cb]; rfl
      refine ⟨_, _, rfl, rfl, ?_⟩
      exact rest [some (.ref p), some (.int n), some (.int (0 - 1)), none, none, none] _ ⟨x1, by rw [eh]⟩
  case rest =>
  rintro _ H1 ⟨x1, rfl⟩
  have hat : (if decide (0 ≤ e.here n) = true then (1 : Int) else 0) = bI e.binds := by
    unfold Env.E.here
    cases e.binds with
    | true => rw [if_pos rfl, decide_eq_true n0]; rfl
    | false => rfl
  walk_at "rd"
  refine ⟨p, _, 0, _, rfl, rfl, x1.seqT hp, at_head, ?_⟩
  walk_at "rd"
  intro L nL
  have x2 : Ext [] H1 (upd H1 L (.lst [.int (e.here n), .str e.word])) := Ext.new nL
  have oL : H L = none := x1.fresh0 nL
  have hL : upd H1 L (.lst [.int (e.here n), .str e.word]) L = some (.lst [.int (e.here n), .str e.word]) := upd_same
  replace x2 := x1.trans x2
  generalize upd H1 L (.lst [.int (e.here n), .str e.word]) = H2 at x2 hL ⊢
  walk_at "rd"
  refine ⟨p, _, rfl, x2.seqT hp, cut1_not _ _, fun T1 nT => ?_⟩
  have nTL : T1 ≠ L := fun z => by rw [z, hL] at nT; cases nT
  have hT1 : upd H2 T1 (.tup (cutV (V.str e.word :: vs) (some 1) none)) T1 = some (.tup vs) := by rw [upd_same, cut1]
  have x3 : Ext [] H (upd H2 T1 (.tup (cutV (V.str e.word :: vs) (some 1) none))) := x2.nw nT
  refine ⟨T1, rfl, ⟨_, SqT.of upd_same⟩, ?_⟩
  refine for_tup (K := K) (a := T1) (xs := vs) (fun i σ H' => ∃ (ws : List V) (o : Option V), Ext [] H H' ∧ H' T1 = some (.tup vs) ∧ H' L = some (.lst (.int (e.here n) :: .str e.word :: ws)) ∧ MIts K H' ws (e.its.take i) (n + bI e.binds) ∧
      σ = [some (.ref p), some (.int n), some (.int (e.here n)), some (.int (n + bI e.binds + sitesOf (e.its.take i))), some (.ref L), o])
    ⟨[], none, x3, hT1, by rw [upd_ne nTL.symm]; exact hL, trivial, by rw [List.take_zero, show n + bI e.binds + sitesOf [] = n + bI e.binds from Int.add_zero _, ← hat]; rfl⟩ (fun i σ H' _ ⟨_, _, _, h, _⟩ => SqT.of h) ?_ ?_
  · rintro i y σ H3 hy ⟨ws, o, g1, g2, g3, g4, rfl⟩
    have il : i < vs.length := (List.getElem?_eq_some_iff.mp hy).1
    have hwl := g4.len
    rw [List.length_take] at hwl
    have small : (V.int (e.here n) :: V.str e.word :: ws).length < sizeLine := small1000 (by rw [List.length_cons, List.length_cons]; omega)
    walk_at "rd"
    rcases (hi.ext g1).at hy with ⟨m, hm, rfl⟩ | ⟨c, hc, tc⟩
    · have et : e.its.take (i + 1) = e.its.take i ++ [.inl m] := by rw [List.take_succ, hm]; rfl
      walk_at "ds"
      refine isi_int ?_
      refine ⟨_, rfl, ?_⟩
      walk_at "rd"
      refine ⟨_, _, _, rfl, rfl, g3, small, ?_⟩
      have x4 : Ext [L] H3 (upd H3 L (.lst ((V.int (e.here n) :: V.str e.word :: ws) ++ [.int m]))) := Ext.put g3 (List.mem_singleton.mpr rfl)
      refine ⟨ws ++ [.int m], some (.int m), g1.mut oL, x4.tup g2, upd_same, ?_, ?_⟩
      · rw [et]
        exact (g4.ext x4).snoc ⟨rfl, trivial⟩
      · rw [et, sitesOf_append, show sitesOf [.inl m] = 0 from rfl, Int.add_zero]
        rfl
    · have et : e.its.take (i + 1) = e.its.take i ++ [.inr c] := by rw [List.take_succ, hc]; rfl
      have ch : c.hgt ≤ d := E.its_hgt eh (List.mem_of_getElem? hc)
      have ns : 0 ≤ sitesOf (e.its.take i) := sitesOf_nonneg _
      have nb : 0 ≤ bI e.binds := by unfold bI; split <;> decide
      obtain ⟨pc, xc, rfl, hpc⟩ := tc.ref
      walk_at "ds"
      refine isi_tup hpc ?_
      refine ⟨_, rfl, ?_⟩
      walk_at "rd"
      refine ⟨_, c, _, rfl, tc, ch, by omega, by omega, fun u H4 x4 mu => ?_⟩
      walk_at "rd"
      have h4 := x4.lst (fun z => nomatch z) g3
      refine ⟨_, _, _, rfl, rfl, h4, small, ?_⟩
      have x5 : Ext [L] H4 (upd H4 L (.lst ((V.int (e.here n) :: V.str e.word :: ws) ++ [u]))) := Ext.put h4 (List.mem_singleton.mpr rfl)
      have x35 : Ext [L] H3 (upd H4 L (.lst ((V.int (e.here n) :: V.str e.word :: ws) ++ [u]))) := (x4.to (ns := [L])).trans x5
      have o5 : Ext [] H (upd H4 L (.lst ((V.int (e.here n) :: V.str e.word :: ws) ++ [u]))) := (g1.trans x4).mut oL
      have l5 : upd H4 L (.lst ((V.int (e.here n) :: V.str e.word :: ws) ++ [u])) L = some (.lst (V.int (e.here n) :: V.str e.word :: (ws ++ [u]))) := upd_same
      generalize upd H4 L (.lst ((V.int (e.here n) :: V.str e.word :: ws) ++ [u])) = H5 at x5 x35 o5 l5 ⊢
      walk_at "rd"
      refine ⟨_, c, rfl, TE.ext x35 tc, by omega, fun H6 x6 => ?_⟩
      walk_at "rd"
      refine ⟨ws ++ [u], some (.ref pc), o5.trans x6, x6.tup (x35.tup g2), x6.lst (fun z => nomatch z) l5, ?_, ?_⟩
      · rw [et]
        exact (((g4.ext x35).ext x6).snoc ⟨MT.ext x6 (MT.ext x5 mu), trivial⟩)
      · rw [et, sitesOf_append, show sitesOf [.inr c] = c.sites from Int.add_zero _, ← Int.add_assoc]
        rfl
  · rintro σ H3 ⟨ws, o, g1, g2, g3, g4, rfl⟩
    rw [hvl, List.take_length] at g4
    walk_at "rd"
    refine ⟨L, _, rfl, .inl ⟨SqL.of g3, fun t nt => ?_⟩⟩
    exact q (.ref t) _ (g1.nw nt) (MT.of (SqT.of upd_same) (g4.ext (Ext.new (ms := []) nt)))
theorem ok_l_marked (T : Tx K mg) : ∀ d : Nat, FnOk P w K mg base CX0 (d + 11) T.l_marked.f T.l_marked.d P_l_marked (spMarked K d)
  | 0 => (fn_never 11).imp fun vs H Q E ⟨v, e, _, _, _, h, _⟩ => by cases e <;> simp [Env.E.hgt] at h
  | n + 1 => ok_l_marked_step T n (ok_l_marked T n)
end
end Env
end
section
set_option Elab.async false
set_option linter.all false
set_option maxRecDepth 100000
set_option maxHeartbeats 4000000
namespace Env
open PySem L2
local macro_rules | `(tactic| walk_at "side") => `(tactic| first
  | assumption
  | ((try dsimp only); omega)
  | decide
  | exact ⟨by omega, by omega⟩
  | exact .inr ⟨by decide, by decide⟩
  | exact .inl ⟨by omega, by omega⟩)
local macro_rules | `(tactic| walk_at "rd1") => `(tactic| first
  | with_reducible refine Exists.intro _ (And.intro rfl ?_)
  | refine Exists.intro _ (And.intro rfl ?_)
  | refine ⟨_, _, rfl, rfl, ?_⟩
  | refine And.intro rfl ?_
  | refine ⟨_, _, _, _, rfl, rfl, SqL.of (by assumption), rfl, ?_⟩
  | refine ⟨_, _, _, _, rfl, rfl, SqL.of upd_same, rfl, ?_⟩
  | refine And.intro (szb rfl) ?_
  | refine And.intro (Or.inl (And.intro rfl (Exists.intro _ (SqL.of (by assumption))))) ?_
  | refine Or.inl (Exists.intro _ (And.intro rfl ?_))
  | refine Or.inr (Exists.intro _ (And.intro rfl ?_))
  | refine And.intro (by walk_at "side") ?_
  | refine ⟨_, _, _, _, rfl, rfl, (by assumption), rfl, ?_⟩
  | refine ⟨_, _, _, _, rfl, rfl, upd_same, rfl, ?_⟩
  | refine ⟨_, _, rfl, .inl (SqL.of (by assumption)), ?_⟩
  | refine ⟨_, _, rfl, .inl (SqL.of upd_same), ?_⟩
  | refine ⟨_, _, rfl, .inl (by assumption), ?_⟩)
local macro_rules | `(tactic| walk_at "rd") => `(tactic| repeat walk_at "rd1")
local macro_rules | `(tactic| walk_at "ds") => `(tactic| dsimp only [tNil, tCons, tC, tNoPart, tPart, tCB, tOp, tTest, tB, tCall, List.nil_append, List.cons_append, List.append_nil])
local macro_rules | `(tactic| walk_at "tup") => `(tactic| (intro t nt))

section
variable {P : Program} {w : World} {K : PySem.W.Frag} {mg : Str → Option Value} {base : Heap}
theorem ok_l_free_step (T : Tx K mg) (d : Nat) (G_l_free : FnOk P w K mg base CX0 (d + 2) T.l_free.f T.l_free.d P_l_free (spFree K d)) :
    FnOk P w K mg base CX0 (d + 3) T.l_free.f T.l_free.d P_l_free (spFree K (d + 1)) := by
  refine T.l_free.F.ok sc_l_free (fun vs H Q E h => ?_) (fun cdv A outer s' H vs Q X hr hsp => ?_)
  · obtain ⟨v, e, n, a, kvs, ρ, rfl, _⟩ := h
    rfl
  obtain ⟨v, e, n, a, kvs, ρ, rfl, me, eh, es, ha, hk, sy, q⟩ := hsp
  refine ⟨_, (pss_cons (ps_if (pt_cmpR op_eq (pe_ix (ixT (K := K) rfl) (pv 0) pe_int (fun _ _ => rfl)) pe_str (nomark _)) (pss_one (ps_ret (pe_ifExp (pt_cmpR op_notN (pe_dget1 (hu_of hr) (pv 1) (pe_ix (ixT (K := K) rfl) (pv 0) pe_int (fun _ _ => rfl)) ⟨by rfl, by rfl, by rfl, by rfl⟩) pe_non (nomark _)) (pe_lst (pa_cons (pe_dget (hu_of hr) (pv 1) (pe_ix (ixT (K := K) rfl) (pv 0) pe_int (fun _ _ => rfl)) (fun _ _ => rfl)) pa_nil)) (pe_lst pa_nil)))) pss_nil)
    (pss_cons (ps_if (pt_cmpR op_eq (pe_ix (ixT (K := K) rfl) (pv 0) pe_int (fun _ _ => rfl)) pe_str (nomark _)) (pss_one (ps_ret (pe_cl T.l_free (G_l_free) hr (by first | decide | omega) (by rfl) (pa_cons (pe_ix (ixT (K := K) rfl) (pv 0) pe_int (fun _ _ => rfl)) (pa_cons (pe_cl T.l_bound (ok_l_boundG T) hr (by first | decide | omega) (by rfl) (pa_cons (pv 1) (pa_cons (pe_ix (ixT (K := K) rfl) (pv 0) pe_int (fun _ _ => rfl)) (pa_cons pe_non pa_nil)))) pa_nil))))) pss_nil)
    (pss_cons (ps_if (pt_cmpR op_eq (pe_ix (ixT (K := K) rfl) (pv 0) pe_int (fun _ _ => rfl)) pe_str (nomark _)) (pss_one (ps_ret (pe_op op_cat (pe_cl T.l_free (G_l_free) hr (by first | decide | omega) (by rfl) (pa_cons (pe_ix (ixT (K := K) rfl) (pv 0) pe_int (fun _ _ => rfl)) (pa_cons (pv 1) pa_nil))) (pe_cl T.l_free (G_l_free) hr (by first | decide | omega) (by rfl) (pa_cons (pe_ix (ixT (K := K) rfl) (pv 0) pe_int (fun _ _ => rfl)) (pa_cons (pe_cl T.l_bound (ok_l_boundG T) hr (by first | decide | omega) (by rfl) (pa_cons (pv 1) (pa_cons (pe_ix (ixT (K := K) rfl) (pv 0) pe_int (fun _ _ => rfl)) (pa_cons pe_non pa_nil)))) pa_nil)))))) pss_nil)
    (pss_cons (ps_set (i := 2) sc_l_free.nd rfl (Or.inl rfl) (pe_lst pa_nil))
    (pss_cons (ps_for PassesOwn.never rfl (piL (K := K) rfl (pe_cl T.l_parts (ok_l_parts T) hr (by first | decide | omega) (by rfl) (pa_cons (pe_slice (slT (K := K) rfl) (pv 0) (po_some pe_int) po_none) pa_nil))) (pg_name (i := 3) sc_l_free.nd rfl (Or.inl rfl)) (pss_one (ps_set (i := 2) sc_l_free.nd rfl (Or.inl rfl) (pe_op op_cat (pv 2) (pe_cl T.l_free (G_l_free) hr (by first | decide | omega) (by rfl) (pa_cons (pv 3) (pa_cons (pv 1) pa_nil)))))))
    (pss_one (ps_ret (pv 2)))))))), ?_⟩
  obtain ⟨p, vs, rfl, hp, hi⟩ := me.node
  have at1 : ∀ x y : V, ∀ l : List V, atI (x :: y :: l) 1 = some y := fun x y l => atI_nat (j := 1) rfl
  have at2 : ∀ x y z : V, ∀ l : List V, atI (x :: y :: z :: l) 2 = some z := fun x y z l => atI_nat (j := 2) rfl
  have at3 : ∀ x y z u : V, ∀ l : List V, atI (x :: y :: z :: u :: l) 3 = some u := fun x y z u l => atI_nat (j := 3) rfl
  have at4 : ∀ x y z u t : V, ∀ l : List V, atI (x :: y :: z :: u :: t :: l) 4 = some t := fun x y z u t l => atI_nat (j := 4) rfl
  walk_at "rd"
  refine ⟨p, _, 1, _, rfl, rfl, hp, at1 _ _ _, ?_⟩
  walk_at "rd"
  rcases word_is e with ⟨hw, k, rfl⟩ | ⟨hw, rest⟩
  · refine ite2 (fun _ => ?_) (fun c => absurd hw c)
    obtain ⟨p2, ep, hp2⟩ := me
    cases ep
    walk_at "rd"
    refine ⟨.inl ⟨kvs, .inl ha⟩, ?_⟩
    walk_at "rd"
    have hg := DGet.k (k := Sum.inl k) ha
    have hfr : ∀ o, ρ k = o → (E.nam k).free ρ = (match o with | some s => [s] | none => []) := fun o ho => by rw [← ho]; rfl
    rcases sy k with ⟨h1, h2⟩ | ⟨h1, h2⟩ | ⟨sx, h1, h2⟩
    · rw [h1] at hg
      refine ⟨none, hg, ?_⟩
      walk_at "rd"
      exact fun r nr => q r _ (Ext.new nr) nr (by rw [upd_same, hfr _ h2]; rfl)
    · rw [h1] at hg
      refine ⟨_, hg, ?_⟩
      walk_at "rd"
      exact fun r nr => q r _ (Ext.new nr) nr (by rw [upd_same, hfr _ h2]; rfl)
    · rw [h1] at hg
      refine ⟨_, hg, ?_⟩
      walk_at "rd"
      refine ⟨a, _, rfl, hg, ?_⟩
      walk_at "rd"
      exact fun r nr => q r _ (Ext.new nr) nr (by rw [upd_same, hfr _ h2]; rfl)
  refine ite2 (fun c => absurd c (by rw [hw]; decide)) (fun _ => ?_)
  walk_at "rd"
  refine ⟨p, _, 1, _, rfl, rfl, hp, at1 _ _ _, ?_⟩
  walk_at "rd"
  rcases rest with ⟨hw, k, b, rfl⟩ | ⟨hw, rest⟩
  · refine ite2 (fun _ => ?_) (fun c => absurd hw c)
    obtain ⟨p2, x, ep, hp2, mb⟩ := me
    cases ep
    simp only [Env.E.hgt] at eh
    simp only [Env.E.size] at es
    walk_at "rd"
    refine ⟨a, k, .non, kvs, rfl, ha, by omega, fun b2 H2 x2 nb hb => ?_⟩
    walk_at "rd"
    have hlen := length_putK kvs (Sum.inl k) V.non
    refine ⟨x, b, _, b2, _, st ρ k none, rfl, MT.ext x2 mb, by omega, by omega, hb, by omega, sy.put k none, fun r H3 x3 nr hr => ?_⟩
    exact q r H3 (x2.trans x3) (x2.fresh0 nr) hr
  refine ite2 (fun c => absurd c (by rw [hw]; decide)) (fun _ => ?_)
  walk_at "rd"
  refine ⟨p, _, 1, _, rfl, rfl, hp, at1 _ _ _, ?_⟩
  walk_at "rd"
  rcases rest with ⟨hw, k, b, c, rfl⟩ | ⟨hw, hb, hn⟩
  · refine ite2 (fun _ => ?_) (fun c => absurd hw c)
    obtain ⟨p2, x, y, ep, hp2, mb, mc⟩ := me
    cases ep
    simp only [Env.E.hgt] at eh
    simp only [Env.E.size] at es
    walk_at "rd"
    refine ⟨x, b, _, a, kvs, ρ, rfl, mb, by omega, by omega, ha, by omega, sy, fun r1 H1 x1 nr1 hr1 => ?_⟩
    replace hp2 := x1.seqT hp2
    walk_at "rd"
    refine ⟨a, k, .non, kvs, rfl, x1.dk ha, by omega, fun b2 H2 x2 nb hb => ?_⟩
    walk_at "rd"
    have hlen := length_putK kvs (Sum.inl k) V.non
    refine ⟨y, c, _, b2, _, st ρ k none, rfl, MT.ext (x1.trans x2) mc, by omega, by omega, hb, by omega, sy.put k none, fun r2 H3 x3 nr2 hr2 => ?_⟩
    have f1 := b.free_len ρ
    have f2 := c.free_len (st ρ k none)
    refine ⟨r1, r2, _, _, rfl, rfl, (x2.trans x3).lst (fun z => nomatch z) hr1, hr2, Nat.le_of_lt (small1000 (by rw [List.length_map, List.length_map]; omega)), fun r nr => ?_⟩
    have x03 := (x1.trans x2).trans x3
    refine q r _ (x03.nw nr) (x03.fresh0 nr) ?_
    rw [upd_same, ← List.map_append]
    rfl
  refine ite2 (fun c => absurd c (by rw [hw]; decide)) (fun _ => ?_)
  walk_at "rd"
  intro L nL
  have x1 : Ext [] H (upd H L (.lst [])) := Ext.new nL
  have hL : upd H L (.lst []) L = some (.lst (([] : List Int).map V.int)) := upd_same
  generalize upd H L (.lst []) = H1 at x1 hL ⊢
  walk_at "rd"
  refine ⟨p, _, rfl, x1.seqT hp, cut1_not _ _, fun T1 nT => ?_⟩
  have hT1 : upd H1 T1 (.tup (cutV (V.int (e.here n) :: V.str e.word :: vs) (some 1) none)) T1 = some (.tup (.str e.word :: vs)) := by rw [upd_same, cut1]
  have nLT : L ≠ T1 := fun z => by rw [← z, hL] at nT; cases nT
  have x2 : Ext [] H (upd H1 T1 (.tup (cutV (V.int (e.here n) :: V.str e.word :: vs) (some 1) none))) := x1.nw nT
  have hL2 : upd H1 T1 (.tup (cutV (V.int (e.here n) :: V.str e.word :: vs) (some 1) none)) L = some (.lst (([] : List Int).map V.int)) := by rw [upd_ne nLT]; exact hL
  generalize upd H1 T1 (.tup (cutV (V.int (e.here n) :: V.str e.word :: vs) (some 1) none)) = H2 at hT1 x2 hL2 ⊢
  have hil := hi.len
  have hel := e.its_len
  walk_at "rd"
  refine ⟨T1, _, vs, rfl, SqT.of hT1, by omega, fun v hv => (hi.pl v hv).ext x2, fun PL H3 x3 nPL hPL => ?_⟩
  have mk := (hi.ext (x2.trans x3)).kids
  have mkl := mk.len
  have hL3 := x3.lst (fun z => nomatch z) hL2
  have x03 := x2.trans x3
  have nP : PL ≠ L := fun z => by rw [z] at nPL; rw [hL2] at nPL; cases nPL
  have hkm : ∀ c ∈ e.kids, c.hgt ≤ d ∧ c.size ≤ 200 := fun c hc => ⟨E.its_hgt eh (kids_mem hc), Nat.le_trans (E.kids_size hc) es⟩
  refine ⟨PL, rfl, ⟨_, SqL.of hPL⟩, ?_⟩
  refine for_list (K := K) (a := PL) (xs := vs.filter isR) (fun i σ H' => ∃ (L' : Addr) (zs : List Int) (o : Option V), Ext [] H3 H' ∧ H' L' = some (.lst (zs.map V.int)) ∧ H L' = none ∧ zs = ((e.kids.take i).map fun c => c.free ρ).flatten ∧
      σ = [some (.ref p), some (.ref a), some (.ref L'), o])
    ⟨L, [], none, Ext.refl _ _, hL3, nL, rfl, rfl⟩ (fun i σ H' _ ⟨_, _, _, x, _⟩ => SqL.of (x.lst (fun z => nomatch z) hPL)) ?_ ?_
  · rintro i y σ H4 hy ⟨L', zs, o, x4, hL4, nL4, hz, rfl⟩
    obtain ⟨c, hc, mc⟩ := (mk.ext x4).at hy
    have hcm := List.mem_of_getElem? hc
    obtain ⟨ch, cs⟩ := hkm c hcm
    have x04 := x03.trans x4
    walk_at "rd"
    refine ⟨_, c, _, a, kvs, ρ, rfl, mc, ch, cs, x04.dk ha, by omega, sy, fun r H5 x5 nr hr => ?_⟩
    have hzl : zs.length ≤ 200 := by
      rw [hz]
      exact Nat.le_trans (free_take e ρ i) es
    have fl := c.free_len ρ
    refine ⟨L', r, _, _, rfl, rfl, x5.lst (fun z => nomatch z) hL4, hr, Nat.le_of_lt (small1000 (by rw [List.length_map, List.length_map]; omega)), fun r2 nr2 => ?_⟩
    have x05 := x04.trans x5
    refine ⟨r2, zs ++ c.free ρ, some y, (x4.trans x5).nw nr2, by rw [upd_same, List.map_append], x05.fresh0 nr2, ?_, rfl⟩
    rw [hz, List.take_succ, show e.kids[i]? = some c from hc, List.map_append, List.flatten_append]
    simp
  · rintro σ H4 ⟨L', zs, o, x4, hL4, nL4, hz, rfl⟩
    walk_at "rd"
    refine q L' H4 (x03.trans x4) nL4 ?_
    rw [E.free_kids hb hn, hL4, hz, mkl, show (kidsOf e.its) = e.kids from rfl, List.take_length]
theorem ok_l_free (T : Tx K mg) : ∀ d : Nat, FnOk P w K mg base CX0 (d + 2) T.l_free.f T.l_free.d P_l_free (spFree K d)
  | 0 => (fn_never 2).imp fun vs H Q E ⟨v, e, _, _, _, _, _, _, h, _⟩ => by cases e <;> simp [Env.E.hgt] at h
  | n + 1 => ok_l_free_step T n (ok_l_free T n)
end
end Env
end
section
set_option Elab.async false
set_option linter.all false
set_option maxRecDepth 100000
set_option maxHeartbeats 4000000
namespace Env
open PySem L2
local macro_rules | `(tactic| walk_at "side") => `(tactic| first
  | assumption
  | ((try dsimp only); omega)
  | decide
  | exact ⟨by omega, by omega⟩
  | exact .inr ⟨by decide, by decide⟩
  | exact .inl ⟨by omega, by omega⟩)
local macro_rules | `(tactic| walk_at "rd1") => `(tactic| first
  | with_reducible refine Exists.intro _ (And.intro rfl ?_)
  | refine Exists.intro _ (And.intro rfl ?_)
  | refine ⟨_, _, rfl, rfl, ?_⟩
  | refine And.intro rfl ?_
  | refine ⟨_, _, _, _, rfl, rfl, SqL.of (by assumption), rfl, ?_⟩
  | refine ⟨_, _, _, _, rfl, rfl, SqL.of upd_same, rfl, ?_⟩
  | refine And.intro (szb rfl) ?_
  | refine And.intro (Or.inl (And.intro rfl (Exists.intro _ (SqL.of (by assumption))))) ?_
  | refine Or.inl (Exists.intro _ (And.intro rfl ?_))
  | refine Or.inr (Exists.intro _ (And.intro rfl ?_))
  | refine And.intro (by walk_at "side") ?_
  | refine ⟨_, _, _, _, rfl, rfl, (by assumption), rfl, ?_⟩
  | refine ⟨_, _, _, _, rfl, rfl, upd_same, rfl, ?_⟩
  | refine ⟨_, _, rfl, .inl (SqL.of (by assumption)), ?_⟩
  | refine ⟨_, _, rfl, .inl (SqL.of upd_same), ?_⟩
  | refine ⟨_, _, rfl, .inl (by assumption), ?_⟩)
local macro_rules | `(tactic| walk_at "rd") => `(tactic| repeat walk_at "rd1")
local macro_rules | `(tactic| walk_at "ds") => `(tactic| dsimp only [tNil, tCons, tC, tNoPart, tPart, tCB, tOp, tTest, tB, tCall, List.nil_append, List.cons_append, List.append_nil])
local macro_rules | `(tactic| walk_at "tup") => `(tactic| (intro t nt))

section
variable {P : Program} {w : World} {K : PySem.W.Frag} {mg : Str → Option Value} {base : Heap}
theorem ok_l_uses_step (T : Tx K mg) (d : Nat) (G_l_uses : FnOk P w K mg base CX0 (d + 12) T.l_uses.f T.l_uses.d P_l_uses (spUses K d)) :
    FnOk P w K mg base CX0 (d + 13) T.l_uses.f T.l_uses.d P_l_uses (spUses K (d + 1)) := by
  refine T.l_uses.F.ok sc_l_uses (fun vs H Q E h => ?_) (fun cdv A outer s' H vs Q X hr hsp => ?_)
  · obtain ⟨v, e, n, a, kvs, ρ, rfl, _⟩ := h
    rfl
  obtain ⟨v, e, n, a, kvs, ρ, rfl, me, eh, hd9, es, n0, ha, hk, sy, q⟩ := hsp
  refine ⟨_, (pss_cons (ps_set (i := 2) sc_l_uses.nd rfl (Or.inl rfl) pe_dnewK)
    (pss_cons (ps_setLc (i := 3) (own := [("_law_part", 4)]) (g := gName 4) (tt := tYes) rfl sc_l_uses.nd rfl rfl (sw_true rfl rfl rfl (by decide +kernel)) (piL (K := K) rfl (pe_cl T.l_parts (ok_l_parts T) hr (by first | decide | omega) (by rfl) (pa_cons (pe_slice (slT (K := K) rfl) (pv 0) (po_some pe_int) po_none) pa_nil))) (blkOk_by (N := N_l_uses) (sc := defScope s_l_uses) (by decide +kernel)) (fun _ _ _ _ _ => (pg_name (i := 4) sc_l_uses.nd rfl (Or.inl rfl))) (fun _ _ _ _ _ => pts_nil) (fun _ _ _ _ _ => (pe_tup (pa_cons (pv 4) (pa_cons (pv 1) pa_nil)))))
    (pss_cons (ps_if (pt_cmpR op_eq (pe_ix (ixT (K := K) rfl) (pv 0) pe_int (fun _ _ => rfl)) pe_str (nomark _)) (pss_cons (ps_dput (hu_of hr) (pv 2) (pe_ix (ixT (K := K) rfl) (pv 0) pe_int (fun _ _ => rfl)) (pe_callB (id := "sorted") (cr_sortI (w := w) rfl rfl) (by rfl) T.B.b_sorted (by decide +kernel) (pa_cons (pe_callTy (T := "set") (cr_setI (K := K) (w := w) rfl rfl rfl) (by rfl) T.B.b_set (by decide +kernel) (pa_cons (pe_cl T.l_free (ok_l_free T 9) hr (by first | decide | omega) (by rfl) (pa_cons (pv 0) (pa_cons (pv 1) pa_nil))) pa_nil)) pa_nil)) rfl)
    (pss_one (ps_set (i := 3) sc_l_uses.nd rfl (Or.inl rfl) (pe_lst (pa_cons (pe_tup (pa_cons (pe_ix (ixT (K := K) rfl) (pv 0) pe_int (fun _ _ => rfl)) (pa_cons (pe_cl T.l_bound (ok_l_boundG T) hr (by first | decide | omega) (by rfl) (pa_cons (pv 1) (pa_cons (pe_ix (ixT (K := K) rfl) (pv 0) pe_int (fun _ _ => rfl)) (pa_cons (pe_ix (ixT (K := K) rfl) (pv 0) pe_int (fun _ _ => rfl)) pa_nil)))) pa_nil))) pa_nil))))) pss_nil)
    (pss_cons (ps_if (pt_cmpR op_eq (pe_ix (ixT (K := K) rfl) (pv 0) pe_int (fun _ _ => rfl)) pe_str (nomark _)) (pss_one (ps_set (i := 3) sc_l_uses.nd rfl (Or.inl rfl) (pe_lst (pa_cons (pe_tup (pa_cons (pe_ix (ixT (K := K) rfl) (pv 0) pe_int (fun _ _ => rfl)) (pa_cons (pv 1) pa_nil))) (pa_cons (pe_tup (pa_cons (pe_ix (ixT (K := K) rfl) (pv 0) pe_int (fun _ _ => rfl)) (pa_cons (pe_cl T.l_bound (ok_l_boundG T) hr (by first | decide | omega) (by rfl) (pa_cons (pv 1) (pa_cons (pe_ix (ixT (K := K) rfl) (pv 0) pe_int (fun _ _ => rfl)) (pa_cons (pe_ix (ixT (K := K) rfl) (pv 0) pe_int (fun _ _ => rfl)) pa_nil)))) pa_nil))) pa_nil))))) pss_nil)
    (pss_cons (ps_for PassesOwn.never rfl (piL (K := K) rfl (pv 3)) (pg_tup (by rfl) (pgs_cons (pg_name (i := 4) sc_l_uses.nd rfl (Or.inl rfl)) (pgs_cons (pg_name (i := 5) sc_l_uses.nd rfl (Or.inl rfl)) pgs_nil))) (pss_one (ps_expr (pe_dupd (pv 2) (pe_cl T.l_uses (G_l_uses) hr (by first | decide | omega) (by rfl) (pa_cons (pv 4) (pa_cons (pv 5) pa_nil))) ⟨by rfl, by rfl, by rfl, by rfl⟩))))
    (pss_one (ps_ret (pv 2)))))))), ?_⟩
  obtain ⟨p, vs, rfl, hp, hi⟩ := me.node
  have at1 : ∀ x y : V, ∀ l : List V, atI (x :: y :: l) 1 = some y := fun x y l => atI_nat (j := 1) rfl
  walk_at "rd"
  intro F nF
  have naF : a ≠ F := ne_of_none ha nF
  have x1 : Ext [] H (upd H F (.dK [])) := Ext.new nF
  have hF : upd H F (.dK []) F = some (.dK []) := upd_same
  generalize upd H F (.dK []) = H1 at x1 hF ⊢
  have hil := hi.len
  have hel := e.its_len
  have nb : 0 ≤ bI e.binds := by unfold bI; split <;> decide
  dsimp only [gName]
  refine seq_cut (fun σ' H' => ∃ (PL : Addr) (ws : List V), Ext [] H H' ∧ H' F = some (.dK []) ∧ H' PL = some (.lst ws) ∧ JAs K F H' d ws (jobs e.kids (n + bI e.binds) ρ) ∧ σ' = [some (.ref p), some (.ref a), some (.ref F), some (.ref PL), none, none]) (fun rest => ?main) ?rest
  case main =>
    walk_at "rd"
    refine ⟨p, _, rfl, x1.seqT hp, cut1_not _ _, fun T1 nT => ?_⟩
    have hT1 : upd H1 T1 (.tup (cutV (V.int (e.here n) :: V.str e.word :: vs) (some 1) none)) T1 = some (.tup (.str e.word :: vs)) := by rw [upd_same, cut1]
    have x2 : Ext [] H (upd H1 T1 (.tup (cutV (V.int (e.here n) :: V.str e.word :: vs) (some 1) none))) := x1.nw nT
    have x12 : Ext [] H1 (upd H1 T1 (.tup (cutV (V.int (e.here n) :: V.str e.word :: vs) (some 1) none))) := Ext.new nT
    generalize upd H1 T1 (.tup (cutV (V.int (e.here n) :: V.str e.word :: vs) (some 1) none)) = H2 at hT1 x2 x12 ⊢
    walk_at "rd"
    refine ⟨T1, _, vs, rfl, SqT.of hT1, by omega, fun v hv => (hi.pl v hv).ext x2, fun CL H3 x3 nCL hCL => ?_⟩
    have mk := (hi.ext (x2.trans x3)).kids
    have x03 := x2.trans x3
    refine ⟨CL, rfl, ⟨_, SqL.of hCL⟩, fun D nD => ?_⟩
    have nDC : D ≠ CL := fun z => by rw [z, hCL] at nD; cases nD
    have mkl := mk.len
    refine lc_list (K := K) (a := CL) (xs := vs.filter isR) (fun i H' => ∃ ws : List V, Ext [] H3 H' ∧ H' D = some (.lst ws) ∧ JAs K F H' d ws ((jobs e.kids (n + bI e.binds) ρ).take i))
      ⟨[], Ext.new nD, upd_same, by rw [List.take_zero]; trivial⟩ (fun i H' _ ⟨_, x, _⟩ => SqL.of (x.lst (fun z => nomatch z) hCL)) ?_ ?_
    · rintro i y H4 hy ⟨ws, x4, hD, hj⟩
      obtain ⟨c, hc, mc⟩ := (mk.ext x4).at hy
      have hcm := List.mem_of_getElem? hc
      have hjn := jobs_at e.kids (n + bI e.binds) ρ i c hc
      have hwl := hj.len
      rw [List.length_take, jobs_len] at hwl
      have hkl := kids_len e.its
      refine ⟨rfl, ?_⟩
      walk_at "rd"
      intro t nt
      have x5 : Ext [] H4 (upd H4 t (.tup [y, .ref a])) := Ext.new nt
      have sq : SqT K (upd H4 t (.tup [y, .ref a])) t [y, .ref a] := SqT.of upd_same
      have hD5 := x5.lst (fun z => nomatch z) hD
      generalize upd H4 t (.tup [y, .ref a]) = H5 at x5 sq hD5 ⊢
      have small : ws.length ≤ 100 := by
        unfold Env.E.kids at hwl
        omega
      refine ⟨_, hD5, small1000 (by omega), ws ++ [.ref t], (x4.trans x5).mut nD, upd_same, ?_⟩
      have xD : Ext [D] H5 (upd H5 D (.lst (ws ++ [.ref t]))) := Ext.put hD5 (List.mem_singleton.mpr rfl)
      rw [List.take_succ, hjn]
      have ns : 0 ≤ sitesE (e.kids.take i) := sitesE_nonneg _
      exact ((hj.ext x5).ext xD).snoc ⟨t, y, a, kvs, naF, rfl, xD.seqT sq, MT.ext xD (MT.ext x5 mc), E.its_hgt eh (kids_mem hcm), Nat.le_trans (E.kids_size hcm) (by omega), by show 0 ≤ n + bI e.binds + sitesE (e.kids.take i); omega, ((x03.trans x4).trans x5).dk ha |> xD.dk, by omega, sy⟩
    · rintro H4 ⟨ws, x4, hD, hj⟩
      have eT : (jobs e.kids (n + bI e.binds) ρ).take (vs.filter isR).length = jobs e.kids (n + bI e.binds) ρ := by
        rw [mkl, show (kidsOf e.its).length = (jobs e.kids (n + bI e.binds) ρ).length from (jobs_len _ _ _).symm, List.take_length]
      rw [eT] at hj
      refine rest [some (.ref p), some (.ref a), some (.ref F), some (.ref D), none, none] H4 ⟨D, ws, x03.trans x4, (x3.trans x4).dk (x12.dk hF), hD, hj, rfl⟩
  case rest =>
  rintro _ H2 ⟨PL, ws, x2, hF2, hPL, hj, rfl⟩
  -- behind both ifs: what stands in the dict, what is to be done
  have ends : ∀ (σ' : L2.St) (H' : Hp), (∃ (PL : Addr) (ws : List V) (js : List Job) (pre : List (Int × List Int)) (fs : List (Key × V)) , Ext [] H H' ∧ H' F = some (.dK fs) ∧ UA H' fs pre ∧ H' PL = some (.lst ws) ∧ JAs K F H' d ws js ∧ (∀ j ∈ js, j.1.size ≤ 60) ∧
      pre ++ (js.map Job.out).flatten = e.uses n ρ ∧ σ' = [some (.ref p), some (.ref a), some (.ref F), some (.ref PL), none, none]) → True := fun _ _ _ => trivial
  refine seq_cut (fun σ' H' => ∃ (PL : Addr) (ws : List V) (js : List Job) (pre : List (Int × List Int)) (fs : List (Key × V)), Ext [] H H' ∧ H' F = some (.dK fs) ∧ UA H' fs pre ∧ H' PL = some (.lst ws) ∧ JAs K F H' d ws js ∧ (∀ j ∈ js, j.1.size ≤ 60) ∧
      ((∃ k b, e = .efun k b ∧ pre ++ (js.map Job.out).flatten = e.uses n ρ) ∨ ((∀ k b, e ≠ .efun k b) ∧ pre = [] ∧ js = jobs e.kids (n + bI e.binds) ρ)) ∧ σ' = [some (.ref p), some (.ref a), some (.ref F), some (.ref PL), none, none]) (fun rest => ?main) ?rest
  case main =>
    have hp2 := x2.seqT hp
    walk_at "rd"
    refine ⟨p, _, 1, _, rfl, rfl, hp2, at1 _ _ _, ?_⟩
    walk_at "rd"
    by_cases hfun : ∃ k b, e = .efun k b
    · obtain ⟨k, b, rfl⟩ := hfun
      refine ite2 (fun _ => ?_) (fun c => absurd wq_fun_fun c)
      obtain ⟨p2, x, ep, hp3, mb⟩ := me
      cases ep
      simp only [Env.E.hgt] at eh
      simp only [Env.E.size] at es
      have hp30 := hp3
      replace hp3 := x2.seqT hp3
      have me2 : MT K H2 (.ref p) (.efun k b) n := ⟨p, x, rfl, hp3, MT.ext x2 mb⟩
      walk_at "rd"
      refine ⟨_, .efun k b, n, a, kvs, ρ, rfl, me2, by simp only [Env.E.hgt]; omega, by simp only [Env.E.size]; omega, x2.dk ha, by omega, sy, fun FL H3 x3 nFL hFL => ?_⟩
      have fl := (E.efun k b).free_len ρ
      simp only [Env.E.size] at fl
      walk_at "rd"
      refine ⟨FL, (E.efun k b).free ρ, rfl, SqL.of hFL, by omega, fun SA c nSA hc => ?_⟩
      have x4 : Ext [] H3 (upd H3 SA (SetO w SA (fun j => decide (j ∈ (E.efun k b).free ρ)) c)) := Ext.new nSA
      have hSA : upd H3 SA (SetO w SA (fun j => decide (j ∈ (E.efun k b).free ρ)) c) SA = some (SetO w SA (fun j => decide (j ∈ (E.efun k b).free ρ)) c) := upd_same
      generalize upd H3 SA (SetO w SA (fun j => decide (j ∈ (E.efun k b).free ρ)) c) = H4 at x4 hSA ⊢
      walk_at "rd"
      refine ⟨SA, _, c, rfl, hSA, by omega, fun ns RL hr1 hr2 hr3 nRL => ?_⟩
      have ens : ns = srt ((E.efun k b).free ρ) := rise_eq hr1 (srt_rise _) fun z => by rw [hr2, srt_mem, decide_eq_true_iff]
      subst ens
      have x5 : Ext [] H4 (upd H4 RL (.lst ((srt ((E.efun k b).free ρ)).map V.int))) := Ext.new nRL
      have hRL : upd H4 RL (.lst ((srt ((E.efun k b).free ρ)).map V.int)) RL = some (.lst ((srt ((E.efun k b).free ρ)).map V.int)) := upd_same
      generalize upd H4 RL (.lst ((srt ((E.efun k b).free ρ)).map V.int)) = H5 at x5 hRL ⊢
      have x25 := (x3.trans x4).trans x5
      replace hp3 := x25.seqT hp3
      walk_at "rd"
      have hF5 := x25.dk hF2
      refine ⟨F, _, rfl, DPut.k (k := Sum.inl n) hF5 (by decide), ?_⟩
      have nRF : RL ≠ F := fun z => by rw [z, hF5] at hRL; cases hRL
      have x6 : Ext [] H (upd H5 F (.dK (putK [] (Sum.inl n) (.ref RL)))) := (x2.trans x25).mut nF
      have hF6 : upd H5 F (.dK (putK [] (Sum.inl n) (.ref RL))) F = some (.dK [(Sum.inl n, .ref RL)]) := upd_same
      have hR6 : upd H5 F (.dK (putK [] (Sum.inl n) (.ref RL))) RL = some (.lst ((srt ((E.efun k b).free ρ)).map V.int)) := by rw [upd_ne nRF]; exact hRL
      have hp6 : SqT K (upd H5 F (.dK (putK [] (Sum.inl n) (.ref RL)))) p [.int n, .str "fun", .int k, x] := x6.seqT hp30
      clear hp3
      generalize upd H5 F (.dK (putK [] (Sum.inl n) (.ref RL))) = H6 at x6 hF6 hR6 hp6 ⊢
      walk_at "rd"
      refine ⟨a, k, .int n, kvs, rfl, x6.dk ha, by omega, fun b2 H7 x7 nb2 hb2 => ?_⟩
      walk_at "rd"
      intro t nt
      have x8 : Ext [] H7 (upd H7 t (.tup [x, .ref b2])) := Ext.new nt
      have sq : SqT K (upd H7 t (.tup [x, .ref b2])) t [x, .ref b2] := SqT.of upd_same
      generalize upd H7 t (.tup [x, .ref b2]) = H8 at x8 sq ⊢
      walk_at "rd"
      intro PL' nPL'
      have x9 : Ext [] H8 (upd H8 PL' (.lst [.ref t])) := Ext.new nPL'
      have x69 := (x7.trans x8).trans x9
      have hlen := length_putK kvs (Sum.inl k) (V.int n)
      have nbF : b2 ≠ F := fun z => by rw [z, hF6] at nb2; cases nb2
      refine rest [some (.ref p), some (.ref a), some (.ref F), some (.ref PL'), none, none] _ ⟨PL', [.ref t], [(b, n + 1, st ρ k (some n))], [(n, srt ((E.efun k b).free ρ))], [(Sum.inl n, .ref RL)], x6.trans x69, x69.dk hF6, ⟨rfl, ⟨RL, rfl, x69.lst (fun z => nomatch z) hR6⟩, trivial⟩, upd_same,
        ⟨⟨t, x, b2, _, nbF, rfl, x9.seqT sq, MT.ext (x6.trans x69) mb, by show b.hgt ≤ d; omega, by show b.size ≤ 200; omega, by show 0 ≤ n + 1; omega, x9.dk (x8.dk hb2), by omega, sy.put k (some n)⟩, trivial⟩, fun j hj => ?_, .inl ⟨k, b, rfl, ?_⟩, rfl⟩
      · rw [List.mem_singleton.mp hj]
        show b.size ≤ 60
        omega
      · simp [Job.out, Env.E.uses, Env.E.free]
    · have hw : decide (V.str e.word = V.str "fun") = false := by
        cases e with
        | efun k b => exact absurd ⟨k, b, rfl⟩ hfun
        | num n => exact wq_num_fun
        | nam n => exact wq_name_fun
        | plus _ _ => exact wq_plus_fun
        | elet _ _ _ => exact wq_let_fun
        | call _ _ => exact wq_call_fun
        | eif _ _ _ => exact wq_if_fun
      refine ite2 (fun c => absurd c (by rw [hw]; decide)) (fun _ => ?_)
      refine rest [some (.ref p), some (.ref a), some (.ref F), some (.ref PL), none, none] H2 ⟨PL, ws, _, [], [], x2, hF2, trivial, hPL, hj, ?_, .inr ⟨fun k b h => hfun ⟨k, b, h⟩, rfl, rfl⟩, rfl⟩
      intro j hj
      obtain ⟨i, hi2, ei⟩ := List.getElem_of_mem hj
      rw [jobs_len] at hi2
      have hji := jobs_at e.kids (n + bI e.binds) ρ i _ (List.getElem?_eq_getElem hi2)
      rw [List.getElem?_eq_getElem (by rw [jobs_len]; exact hi2), ei] at hji
      have := Option.some.inj hji
      rw [this]
      exact Nat.le_trans (E.kids_size (List.getElem_mem hi2)) es
  case rest =>
  clear hPL hj hF2 x2 ws PL
  rintro _ H3 ⟨PL, ws, js, pre, fs, x3, hF3, hU, hPL, hj, hjs, hcase, rfl⟩
  refine seq_cut (fun σ' H' => ∃ (PL : Addr) (ws : List V) (js : List Job) (pre : List (Int × List Int)) (fs : List (Key × V)), Ext [] H H' ∧ H' F = some (.dK fs) ∧ UA H' fs pre ∧ H' PL = some (.lst ws) ∧ JAs K F H' d ws js ∧ (∀ j ∈ js, j.1.size ≤ 60) ∧
      pre ++ (js.map Job.out).flatten = e.uses n ρ ∧ σ' = [some (.ref p), some (.ref a), some (.ref F), some (.ref PL), none, none]) (fun rest => ?main) ?rest
  case main =>
    have hp2 := x3.seqT hp
    walk_at "rd"
    refine ⟨p, _, 1, _, rfl, rfl, hp2, at1 _ _ _, ?_⟩
    walk_at "rd"
    by_cases hlet : ∃ k b c, e = .elet k b c
    · obtain ⟨k, b, c, rfl⟩ := hlet
      refine ite2 (fun _ => ?_) (fun c => absurd wq_let_let c)
      have hpre : pre = [] ∧ UA H3 fs [] := by
        rcases hcase with ⟨_, _, z, _⟩ | ⟨_, z, _⟩
        · cases z
        · rw [z] at hU; exact ⟨z, hU⟩
      obtain ⟨rfl, hU0⟩ := hpre
      obtain ⟨p2, x, y, ep, hp3, mb, mc⟩ := me
      cases ep
      simp only [Env.E.hgt] at eh
      simp only [Env.E.size] at es
      replace hp3 := x3.seqT hp3
      clear hp2
      walk_at "rd"
      intro t1 nt1
      have x4 : Ext [] H3 (upd H3 t1 (.tup [x, .ref a])) := Ext.new nt1
      have sq1 : SqT K (upd H3 t1 (.tup [x, .ref a])) t1 [x, .ref a] := SqT.of upd_same
      generalize upd H3 t1 (.tup [x, .ref a]) = H4 at x4 sq1 ⊢
      replace hp3 := x4.seqT hp3
      walk_at "rd"
      refine ⟨a, k, .int n, kvs, rfl, x4.dk (x3.dk ha), by omega, fun b2 H7 x7 nb2 hb2 => ?_⟩
      walk_at "rd"
      intro t nt
      have x8 : Ext [] H7 (upd H7 t (.tup [y, .ref b2])) := Ext.new nt
      have sq : SqT K (upd H7 t (.tup [y, .ref b2])) t [y, .ref b2] := SqT.of upd_same
      generalize upd H7 t (.tup [y, .ref b2]) = H8 at x8 sq ⊢
      walk_at "rd"
      intro PL' nPL'
      have x9 : Ext [] H8 (upd H8 PL' (.lst [.ref t1, .ref t])) := Ext.new nPL'
      have x49 := (x7.trans x8).trans x9
      have x39 := x4.trans x49
      have hlen := length_putK kvs (Sum.inl k) (V.int n)
      have nbF : b2 ≠ F := fun z => by rw [z, x4.dk hF3] at nb2; cases nb2
      refine rest [some (.ref p), some (.ref a), some (.ref F), some (.ref PL'), none, none] _ ⟨PL', [.ref t1, .ref t], [(b, n + 1, ρ), (c, n + 1 + b.sites, st ρ k (some n))], [], fs, x3.trans x39, x39.dk hF3, hU0.ext x39, upd_same,
        ⟨⟨t1, x, a, kvs, naF, rfl, x49.seqT sq1, MT.ext (x3.trans x39) mb, by show b.hgt ≤ d; omega, by show b.size ≤ 200; omega, by show 0 ≤ n + 1; omega, x39.dk (x3.dk ha), by omega, sy⟩,
         ⟨t, y, b2, _, nbF, rfl, x9.seqT sq, MT.ext (x3.trans x39) mc, by show c.hgt ≤ d; omega, by show c.size ≤ 200; omega, by show 0 ≤ n + 1 + (b.sites : Int); omega, x9.dk (x8.dk hb2), by omega, sy.put k (some n)⟩, trivial⟩, fun j hj => ?_, ?_, rfl⟩
      · rcases List.mem_cons.mp hj with rfl | hj
        · show b.size ≤ 60
          omega
        · rw [List.mem_singleton.mp hj]
          show c.size ≤ 60
          omega
      · simp [Job.out, Env.E.uses]
    · have hw : decide (V.str e.word = V.str "let") = false := by
        cases e with
        | elet k b c => exact absurd ⟨k, b, c, rfl⟩ hlet
        | num n => exact wq_num_let
        | nam n => exact wq_name_let
        | plus _ _ => exact wq_plus_let
        | efun _ _ => exact wq_fun_let
        | call _ _ => exact wq_call_let
        | eif _ _ _ => exact wq_if_let
      refine ite2 (fun c => absurd c (by rw [hw]; decide)) (fun _ => ?_)
      refine rest [some (.ref p), some (.ref a), some (.ref F), some (.ref PL), none, none] H3 ⟨PL, ws, js, pre, fs, x3, hF3, hU, hPL, hj, hjs, ?_, rfl⟩
      rcases hcase with ⟨_, _, _, z⟩ | ⟨z1, z2, z3⟩
      · exact z
      · rw [z2, z3, List.nil_append]
        refine uses_kids ?_ n ρ
        cases e with
        | elet k b c => exact absurd ⟨k, b, c, rfl⟩ hlet
        | efun k b => exact absurd rfl (z1 k b)
        | _ => rfl
  case rest =>
  clear hcase hjs hj hPL hU hF3 x3 fs pre js ws PL
  rintro _ H3 ⟨PL, ws, js, pre, fs, x3, hF3, hU, hPL, hj, hjs, hall, rfl⟩
  have nPF : PL ≠ F := fun z => by rw [z, hF3] at hPL; cases hPL
  have hr := e.uses_rise n ρ
  have hul := e.uses_len n ρ
  have hjl := hj.len
  walk_at "rd"
  refine ⟨⟨_, SqL.of hPL⟩, ?_⟩
  refine for_list (K := K) (a := PL) (xs := ws) (fun i σ H' => ∃ (fs : List (Key × V)) (o1 o2 : Option V), Ext [] H H' ∧ Exf F H3 H' ∧ H' F = some (.dK fs) ∧ UA H' fs (pre ++ ((js.take i).map Job.out).flatten) ∧
      σ = [some (.ref p), some (.ref a), some (.ref F), some (.ref PL), o1, o2])
    ⟨fs, none, none, x3, fun _ _ h _ => h, hF3, by rw [List.take_zero]; simpa using hU, rfl⟩ (fun i σ H' _ ⟨_, _, _, _, y, _⟩ => SqL.of (y _ _ hPL nPF)) ?_ ?_
  · rintro i v σ H4 hv ⟨fs4, o1, o2, x4, y4, hF4, hU4, rfl⟩
    obtain ⟨j, hjat, p4, x, a4, kvs4, n4, rfl, sq4, m4, h4, s4, l4, d4, k4, sy4⟩ := (hj.exf y4 hF3).at hv
    have hjm := List.mem_of_getElem? hjat
    refine ⟨p4, _, rfl, sq4, rfl, ?_⟩
    refine ⟨_, _, rfl, ?_⟩
    refine ⟨_, _, rfl, ?_⟩
    walk_at "rd"
    refine ⟨.inl ⟨fs4, .inl hF4⟩, ?_⟩
    walk_at "rd"
    refine ⟨x, j.1, j.2.1, a4, kvs4, j.2.2, rfl, m4, h4, by omega, hjs j hjm, l4, d4, k4, sy4, fun G H5 fs5 x5 nG hG hU5 => ?_⟩
    have nFG : F ≠ G := fun z => by rw [← z, hF4] at nG; cases nG
    have etake : (js.take (i + 1)).map Job.out = (js.take i).map Job.out ++ [j.out] := by rw [List.take_succ, hjat, List.map_append]; rfl
    have eall : e.uses n ρ = (pre ++ ((js.take (i + 1)).map Job.out).flatten) ++ ((js.drop (i + 1)).map Job.out).flatten := by
      rw [← hall, List.append_assoc, ← List.flatten_append, ← List.map_append, List.take_append_drop]
    have hUU : UA H5 (fs4 ++ fs5) (pre ++ ((js.take (i + 1)).map Job.out).flatten) := by
      rw [etake, List.flatten_append, ← List.append_assoc]
      refine (hU4.ext x5).app ?_
      rw [List.flatten_singleton]
      exact hU5
    have hnd : ((fs4 ++ fs5).map (·.1)).Nodup := by
      rw [hUU.keys]
      refine keys_nodup ?_
      have hp := hr.1
      rw [eall, List.map_append] at hp
      exact (List.pairwise_append.mp hp).1
    have hlen : (fs4 ++ fs5).length ≤ 200 := by
      have z := hUU.len
      have z2 := congrArg List.length eall
      rw [List.length_append (as := pre ++ _)] at z2
      omega
    rw [List.length_append] at hlen
    have em := mergeK_app fs5 fs4 hnd
    refine ⟨G, fs4, fs5, rfl, nFG, x5.dk hF4, hG, Nat.le_of_lt (small1000 (by omega)), Nat.le_of_lt (small1000 (by rw [em, List.length_append]; omega)), ?_⟩
    refine ⟨mergeK fs4 fs5, some x, some (.ref a4), (x4.trans x5).mut nF, fun b o hb hbF => ?_, upd_same, ?_, rfl⟩
    · rw [upd_ne hbF]
      exact x5 _ _ (y4 b o hb hbF) (.inl fun z => nomatch z)
    · rw [em]
      exact UA.exf (x5.dk hF4) hUU
  · rintro σ H4 ⟨fs4, o1, o2, x4, y4, hF4, hU4, rfl⟩
    walk_at "rd"
    refine q F H4 fs4 x4 nF hF4 ?_
    rw [hjl, List.take_length, hall] at hU4
    exact hU4
theorem ok_l_uses (T : Tx K mg) : ∀ d : Nat, FnOk P w K mg base CX0 (d + 12) T.l_uses.f T.l_uses.d P_l_uses (spUses K d)
  | 0 => (fn_never 12).imp fun vs H Q E ⟨v, e, _, _, _, _, _, _, h, _⟩ => by cases e <;> simp [Env.E.hgt] at h
  | n + 1 => ok_l_uses_step T n (ok_l_uses T n)
end
end Env
end
section
set_option Elab.async false
set_option linter.all false
set_option maxRecDepth 100000
set_option maxHeartbeats 4000000
namespace Env
open PySem L2
local macro_rules | `(tactic| walk_at "side") => `(tactic| first
  | assumption
  | ((try dsimp only); omega)
  | decide
  | exact ⟨by omega, by omega⟩
  | exact .inr ⟨by decide, by decide⟩
  | exact .inl ⟨by omega, by omega⟩)
local macro_rules | `(tactic| walk_at "rd1") => `(tactic| first
  | with_reducible refine Exists.intro _ (And.intro rfl ?_)
  | refine Exists.intro _ (And.intro rfl ?_)
  | refine ⟨_, _, rfl, rfl, ?_⟩
  | refine And.intro rfl ?_
  | refine ⟨_, _, _, _, rfl, rfl, SqL.of (by assumption), rfl, ?_⟩
  | refine ⟨_, _, _, _, rfl, rfl, SqL.of upd_same, rfl, ?_⟩
  | refine And.intro (szb rfl) ?_
  | refine And.intro (Or.inl (And.intro rfl (Exists.intro _ (SqL.of (by assumption))))) ?_
  | refine Or.inl (Exists.intro _ (And.intro rfl ?_))
  | refine Or.inr (Exists.intro _ (And.intro rfl ?_))
  | refine And.intro (by walk_at "side") ?_
  | refine ⟨_, _, _, _, rfl, rfl, (by assumption), rfl, ?_⟩
  | refine ⟨_, _, _, _, rfl, rfl, upd_same, rfl, ?_⟩
  | refine ⟨_, _, rfl, .inl (SqL.of (by assumption)), ?_⟩
  | refine ⟨_, _, rfl, .inl (SqL.of upd_same), ?_⟩
  | refine ⟨_, _, rfl, .inl (by assumption), ?_⟩)
local macro_rules | `(tactic| walk_at "rd") => `(tactic| repeat walk_at "rd1")
local macro_rules | `(tactic| walk_at "ds") => `(tactic| dsimp only [tNil, tCons, tC, tNoPart, tPart, tCB, tOp, tTest, tB, tCall, List.nil_append, List.cons_append, List.append_nil])
local macro_rules | `(tactic| walk_at "tup") => `(tactic| (intro t nt))

section
variable {P : Program} {w : World} {K : PySem.W.Frag} {mg : Str → Option Value} {base : Heap}
theorem ok_l_alike_step (T : Tx K mg) (n : Nat) (G_l_alike : FnOk P w K mg base CX0 (n + 1) T.l_alike.f T.l_alike.d P_l_alike (spAlike K n)) :
    FnOk P w K mg base CX0 (n + 2) T.l_alike.f T.l_alike.d P_l_alike (spAlike K (n + 1)) := by
  refine T.l_alike.F.ok sc_l_alike (fun vs H Q E h => ?_) (fun cdv A outer s' H vs Q EE hr hsp => ?_)
  · obtain ⟨v, u, rfl, _⟩ := h
    rfl
  obtain ⟨v, u, rfl, sm, q⟩ := hsp
  refine ⟨_, (pss_cons (ps_if (PW.pt (pw_or (pt_val (pe_callB (id := "isinstance") (isiK (K := K) rfl) (by rfl) T.B.b_isinstance (by decide +kernel) (pa_cons (pv 1) (pa_cons (pe_bltn (v := .ty "tuple") (u := .type "tuple") (by rfl) T.B.b_tuple (by decide +kernel) rfl) pa_nil)))) (pw_or1 (pt_val (pe_callB (id := "isinstance") (isiK (K := K) rfl) (by rfl) T.B.b_isinstance (by decide +kernel) (pa_cons (pv 1) (pa_cons (pe_bltn (v := .ty "list") (u := .type "list") (by rfl) T.B.b_list (by decide +kernel) rfl) pa_nil))))))) (pss_cons (ps_if (PW.pt (pw_or (pt_cmpR op_ne (pe_callB (id := "isinstance") (isiK (K := K) rfl) (by rfl) T.B.b_isinstance (by decide +kernel) (pa_cons (pv 0) (pa_cons (pe_bltn (v := .ty "tuple") (u := .type "tuple") (by rfl) T.B.b_tuple (by decide +kernel) rfl) pa_nil))) (pe_callB (id := "isinstance") (isiK (K := K) rfl) (by rfl) T.B.b_isinstance (by decide +kernel) (pa_cons (pv 1) (pa_cons (pe_bltn (v := .ty "tuple") (u := .type "tuple") (by rfl) T.B.b_tuple (by decide +kernel) rfl) pa_nil))) (nomark _)) (pw_or1 (pt_not (pt_val (pe_callB (id := "isinstance") (isiTK (K := K) rfl) (by rfl) T.B.b_isinstance (by decide +kernel) (pa_cons (pv 0) (pa_cons (pe_tup (pa_cons (pe_bltn (v := .ty "tuple") (u := .type "tuple") (by rfl) T.B.b_tuple (by decide +kernel) rfl) (pa_cons (pe_bltn (v := .ty "list") (u := .type "list") (by rfl) T.B.b_list (by decide +kernel) rfl) pa_nil))) pa_nil)))))))) (pss_one (ps_ret pe_bl)) pss_nil)
    (pss_cons (ps_if (pt_cmpR op_ne (pe_callB (id := "len") (lenS (K := K) rfl) (by rfl) T.B.b_len (by decide +kernel) (pa_cons (pv 0) pa_nil)) (pe_callB (id := "len") (lenS (K := K) rfl) (by rfl) T.B.b_len (by decide +kernel) (pa_cons (pv 1) pa_nil)) (nomark _)) (pss_one (ps_ret pe_bl)) pss_nil)
    (pss_one (ps_ret (pe_cmpR (eqDK (K := K) rfl hr.units) (pe_lc (own := [("_law_k", 2)]) (g := gName 2) (by rfl) sc_l_alike.nd (pi_range1 (by rfl) T.B.b_range (pa_cons (pe_callB (id := "len") (lenS (K := K) rfl) (by rfl) T.B.b_len (by decide +kernel) (pa_cons (pv 1) pa_nil)) pa_nil)) (blkOk_by (N := N_l_alike) (sc := defScope s_l_alike) (by decide +kernel)) (fun _ _ _ _ _ => (pg_name (i := 2) sc_l_alike.nd rfl (Or.inl rfl))) (fun _ _ _ _ _ => pts_one (pt_not (pt_val (pe_cl T.l_alike (G_l_alike) hr (by first | decide | omega) (by rfl) (pa_cons (pe_ix (ixB (K := K) rfl) (pv 0) (pv 2) (fun _ _ => rfl)) (pa_cons (pe_ix (ixB (K := K) rfl) (pv 1) (pv 2) (fun _ _ => rfl)) pa_nil)))))) (fun _ _ _ _ _ => (pv 2))) (pe_lst pa_nil) (nomark _)))))) pss_nil)
    (pss_cons (ps_if (PW.pt (pw_or (pt_cmpR op_isN (pv 1) pe_non (nomark _)) (pw_or1 (pt_cmpR op_isN (pv 0) pe_non (nomark _))))) (pss_one (ps_ret (pe_and (pe_cmpR op_isN (pv 1) pe_non (nomark _)) (pe_one (pe_cmpR op_isN (pv 0) pe_non (nomark _)))))) pss_nil)
    (pss_cons (ps_if (PW.pt (pw_or (pt_val (pe_callB (id := "isinstance") (isiK (K := K) rfl) (by rfl) T.B.b_isinstance (by decide +kernel) (pa_cons (pv 1) (pa_cons (pe_bltn (v := .ty "bool") (u := .type "bool") (by rfl) T.B.b_bool (by decide +kernel) rfl) pa_nil)))) (pw_or1 (pt_val (pe_callB (id := "isinstance") (isiK (K := K) rfl) (by rfl) T.B.b_isinstance (by decide +kernel) (pa_cons (pv 0) (pa_cons (pe_bltn (v := .ty "bool") (u := .type "bool") (by rfl) T.B.b_bool (by decide +kernel) rfl) pa_nil))))))) (pss_one (ps_ret (pe_and (pe_callB (id := "isinstance") (isiK (K := K) rfl) (by rfl) T.B.b_isinstance (by decide +kernel) (pa_cons (pv 1) (pa_cons (pe_bltn (v := .ty "bool") (u := .type "bool") (by rfl) T.B.b_bool (by decide +kernel) rfl) pa_nil))) (pe_and (pe_callB (id := "isinstance") (isiK (K := K) rfl) (by rfl) T.B.b_isinstance (by decide +kernel) (pa_cons (pv 0) (pa_cons (pe_bltn (v := .ty "bool") (u := .type "bool") (by rfl) T.B.b_bool (by decide +kernel) rfl) pa_nil))) (pe_one (pe_cmpR (eqDK (K := K) rfl hr.units) (pv 0) (pv 1) (nomark _))))))) pss_nil)
    (pss_cons (ps_if (pt_val (pe_callB (id := "isinstance") (isiK (K := K) rfl) (by rfl) T.B.b_isinstance (by decide +kernel) (pa_cons (pv 1) (pa_cons (pe_bltn (v := .ty "str") (u := .type "str") (by rfl) T.B.b_str (by decide +kernel) rfl) pa_nil)))) (pss_one (ps_ret (pe_and (pe_callB (id := "isinstance") (isiK (K := K) rfl) (by rfl) T.B.b_isinstance (by decide +kernel) (pa_cons (pv 0) (pa_cons (pe_bltn (v := .ty "str") (u := .type "str") (by rfl) T.B.b_str (by decide +kernel) rfl) pa_nil))) (pe_one (pe_cmpR (eqDK (K := K) rfl hr.units) (pv 0) (pv 1) (nomark _)))))) pss_nil)
    (pss_one (ps_ret (pe_and (pe_callB (id := "isinstance") (isiK (K := K) rfl) (by rfl) T.B.b_isinstance (by decide +kernel) (pa_cons (pv 0) (pa_cons (pe_bltn (v := .ty "int") (u := .type "int") (by rfl) T.B.b_int (by decide +kernel) rfl) pa_nil))) (pe_one (pe_cmpR (eqDK (K := K) rfl hr.units) (pv 0) (pv 1) (nomark _)))))))))), ?_⟩
  rcases sm with ⟨m, rfl, rfl⟩ | ⟨a, b, xs, ys, rfl, rfl, hs, hl, h100, hsm⟩ | ⟨m, rfl, rfl, hz⟩ | ⟨rfl, rfl⟩
  · walk_at "rd"
    walk_at "ds"
    refine isiI kb_it ?_
    walk_at "rd"
    walk_at "ds"
    refine isiI kb_il ?_
    walk_at "rd"
    walk_at "ds"
    refine isiI kb_ib ?_
    walk_at "rd"
    walk_at "ds"
    refine isiI kb_ib ?_
    walk_at "rd"
    walk_at "ds"
    refine isiI kb_is ?_
    walk_at "rd"
    walk_at "ds"
    refine isiI kb_ii ?_
    walk_at "rd"
    show rEqD K (.int m) (.int m) H Q
    refine ⟨.int m, .int m, .int m, .int m, rfl, rfl, ?_⟩
    rw [eqv_ii]
    exact q H (Ext.refl _ _)
  · rcases hs with ⟨ha, hb⟩ | ⟨ha, hb⟩
    · have ta := tyx_lst ha
      have tb := tyx_lst hb
      walk_at "rd"
      walk_at "ds"
      refine isiG tb kb_lt ?_
      walk_at "rd"
      walk_at "ds"
      refine isiG tb kb_ll ?_
      walk_at "rd"
      walk_at "ds"
      refine isiG ta kb_lt ?_
      walk_at "rd"
      walk_at "ds"
      refine isiG tb kb_lt ?_
      walk_at "rd"
      intro t0 nt0
      have x1 : Ext [] H (upd H t0 (.tup [.ty "tuple", .ty "list"])) := Ext.new nt0
      have ht0 : upd H t0 (.tup [.ty "tuple", .ty "list"]) t0 = some (.tup [.ty "tuple", .ty "list"]) := upd_same
      have ta2 : TyX K (upd H t0 (.tup [.ty "tuple", .ty "list"])) (.ref a) (.type "list") := tyx_lst (x1.seqL (fun z => nomatch z) ha) -- ha1
      walk_at "ds"
      refine isiTT ht0 ta2 (.inr rfl) ?_
      walk_at "rd"
      generalize upd H t0 (.tup [.ty "tuple", .ty "list"]) = H1 at x1 ⊢
      clear ht0 ta2
      walk_at "ds"
      refine ⟨a, xs, rfl, .inl (x1.seqL (fun z => nomatch z) ha), ?_⟩
      walk_at "rd"
      refine ⟨b, ys, rfl, .inl (x1.seqL (fun z => nomatch z) hb), ?_⟩
      walk_at "rd"
      refine ite2 (fun c => absurd (congrArg (fun n : Nat => V.int (n : Int)) hl) (by simpa using c)) (fun _ => ?_)
      walk_at "rd"
      refine ⟨b, ys, rfl, .inl (x1.seqL (fun z => nomatch z) hb), ?_⟩
      refine ⟨_, rfl, by omega, by omega, fun D nD => ?_⟩
      have nD0 : H D = none := x1.fresh0 nD
      refine lc_range (lo := 0) (n := (ys.length : Int).toNat) (fun i H' => Ext [] H H' ∧ H' D = some (.lst [])) ⟨x1.nw nD, upd_same⟩ ?_ ?_
      · rintro i H' hi ⟨g1, g2⟩
        have hi2 : i < ys.length := by omega
        refine ⟨rfl, ?_⟩
        walk_at "rd"
        obtain ⟨x, hx⟩ : ∃ x, xs[i]? = some x := ⟨_, List.getElem?_eq_getElem (by omega)⟩
        obtain ⟨y, hy⟩ : ∃ y, ys[i]? = some y := ⟨_, List.getElem?_eq_getElem hi2⟩
        refine ⟨a, i, xs, x, rfl, by rw [Int.zero_add], .inl (g1.seqL (fun z => nomatch z) ha), hx, ?_⟩
        walk_at "rd"
        refine ⟨b, i, ys, y, rfl, by rw [Int.zero_add], .inl (g1.seqL (fun z => nomatch z) hb), hy, ?_⟩
        walk_at "rd"
        refine ⟨x, y, rfl, (hsm i x y hx hy).ext g1, fun H2 x2 => ?_⟩
        walk_at "rd"
        exact ⟨g1.trans x2, x2.lst (fun z => nomatch z) g2⟩
      · rintro H' ⟨g1, g2⟩
        walk_at "rd"
        intro p np
        have g3 : upd H' p (.lst []) D = some (.lst []) := (Ext.new (ms := []) np).lst (fun z => nomatch z) g2
        refine ⟨.list [], .list [], .lst (SqL.of g3) .nil, .lst (SqL.of upd_same) .nil, by decide, by decide, ?_⟩
        exact q _ (g1.nw np)
    · have ta := tyx_tup ha
      have tb := tyx_tup hb
      walk_at "rd"
      walk_at "ds"
      refine isiG tb kb_tt ?_
      walk_at "rd"
      walk_at "ds"
      refine isiG ta kb_tt ?_
      walk_at "rd"
      walk_at "ds"
      refine isiG tb kb_tt ?_
      walk_at "rd"
      intro t0 nt0
      have x1 : Ext [] H (upd H t0 (.tup [.ty "tuple", .ty "list"])) := Ext.new nt0
      have ht0 : upd H t0 (.tup [.ty "tuple", .ty "list"]) t0 = some (.tup [.ty "tuple", .ty "list"]) := upd_same
      have ta2 : TyX K (upd H t0 (.tup [.ty "tuple", .ty "list"])) (.ref a) (.type "tuple") := tyx_tup (x1.seqT ha) -- ha1
      walk_at "ds"
      refine isiTT ht0 ta2 (.inl rfl) ?_
      walk_at "rd"
      generalize upd H t0 (.tup [.ty "tuple", .ty "list"]) = H1 at x1 ⊢
      clear ht0 ta2
      walk_at "ds"
      refine ⟨a, xs, rfl, .inr (x1.seqT ha), ?_⟩
      walk_at "rd"
      refine ⟨b, ys, rfl, .inr (x1.seqT hb), ?_⟩
      walk_at "rd"
      refine ite2 (fun c => absurd (congrArg (fun n : Nat => V.int (n : Int)) hl) (by simpa using c)) (fun _ => ?_)
      walk_at "rd"
      refine ⟨b, ys, rfl, .inr (x1.seqT hb), ?_⟩
      refine ⟨_, rfl, by omega, by omega, fun D nD => ?_⟩
      have nD0 : H D = none := x1.fresh0 nD
      refine lc_range (lo := 0) (n := (ys.length : Int).toNat) (fun i H' => Ext [] H H' ∧ H' D = some (.lst [])) ⟨x1.nw nD, upd_same⟩ ?_ ?_
      · rintro i H' hi ⟨g1, g2⟩
        have hi2 : i < ys.length := by omega
        refine ⟨rfl, ?_⟩
        walk_at "rd"
        obtain ⟨x, hx⟩ : ∃ x, xs[i]? = some x := ⟨_, List.getElem?_eq_getElem (by omega)⟩
        obtain ⟨y, hy⟩ : ∃ y, ys[i]? = some y := ⟨_, List.getElem?_eq_getElem hi2⟩
        refine ⟨a, i, xs, x, rfl, by rw [Int.zero_add], .inr (g1.seqT ha), hx, ?_⟩
        walk_at "rd"
        refine ⟨b, i, ys, y, rfl, by rw [Int.zero_add], .inr (g1.seqT hb), hy, ?_⟩
        walk_at "rd"
        refine ⟨x, y, rfl, (hsm i x y hx hy).ext g1, fun H2 x2 => ?_⟩
        walk_at "rd"
        exact ⟨g1.trans x2, x2.lst (fun z => nomatch z) g2⟩
      · rintro H' ⟨g1, g2⟩
        walk_at "rd"
        intro p np
        have g3 : upd H' p (.lst []) D = some (.lst []) := (Ext.new (ms := []) np).lst (fun z => nomatch z) g2
        refine ⟨.list [], .list [], .lst (SqL.of g3) .nil, .lst (SqL.of upd_same) .nil, by decide, by decide, ?_⟩
        exact q _ (g1.nw np)
  · walk_at "rd"
    walk_at "ds"
    refine isiS kb_st ?_
    walk_at "rd"
    walk_at "ds"
    refine isiS kb_sl ?_
    walk_at "rd"
    walk_at "ds"
    refine isiS kb_sb ?_
    walk_at "rd"
    walk_at "ds"
    refine isiS kb_sb ?_
    walk_at "rd"
    walk_at "ds"
    refine isiS kb_sss ?_
    walk_at "rd"
    walk_at "ds"
    refine isiS kb_sss ?_
    walk_at "rd"
    show rEqD K (.str m) (.str m) H Q
    refine ⟨.str m, .str m, .str m, .str m, hz, hz, ?_⟩
    rw [eqv_ss]
    exact q H (Ext.refl _ _)
  · walk_at "rd"
    walk_at "ds"
    refine isiN kb_nt ?_
    walk_at "rd"
    walk_at "ds"
    refine isiN kb_nl ?_
    walk_at "rd"
    exact q H (Ext.refl _ _)
theorem ok_l_alike (T : Tx K mg) : ∀ d : Nat, FnOk P w K mg base CX0 (d + 1) T.l_alike.f T.l_alike.d P_l_alike (spAlike K d)
  | 0 => (fn_never 1).imp fun vs H Q E ⟨v, u, _, h, _⟩ => h.elim
  | n + 1 => ok_l_alike_step T n (ok_l_alike T n)
end
end Env
end
section
set_option Elab.async false
set_option linter.all false
set_option maxRecDepth 100000
set_option maxHeartbeats 4000000
namespace Env
open PySem L2
local macro_rules | `(tactic| walk_at "side") => `(tactic| first
  | assumption
  | ((try dsimp only); omega)
  | decide
  | exact ⟨by omega, by omega⟩
  | exact .inr ⟨by decide, by decide⟩
  | exact .inl ⟨by omega, by omega⟩)
local macro_rules | `(tactic| walk_at "rd1") => `(tactic| first
  | with_reducible refine Exists.intro _ (And.intro rfl ?_)
  | refine Exists.intro _ (And.intro rfl ?_)
  | refine ⟨_, _, rfl, rfl, ?_⟩
  | refine And.intro rfl ?_
  | refine ⟨_, _, _, _, rfl, rfl, SqL.of (by assumption), rfl, ?_⟩
  | refine ⟨_, _, _, _, rfl, rfl, SqL.of upd_same, rfl, ?_⟩
  | refine And.intro (szb rfl) ?_
  | refine And.intro (Or.inl (And.intro rfl (Exists.intro _ (SqL.of (by assumption))))) ?_
  | refine Or.inl (Exists.intro _ (And.intro rfl ?_))
  | refine Or.inr (Exists.intro _ (And.intro rfl ?_))
  | refine And.intro (by walk_at "side") ?_
  | refine ⟨_, _, _, _, rfl, rfl, (by assumption), rfl, ?_⟩
  | refine ⟨_, _, _, _, rfl, rfl, upd_same, rfl, ?_⟩
  | refine ⟨_, _, rfl, .inl (SqL.of (by assumption)), ?_⟩
  | refine ⟨_, _, rfl, .inl (SqL.of upd_same), ?_⟩
  | refine ⟨_, _, rfl, .inl (by assumption), ?_⟩)
local macro_rules | `(tactic| walk_at "rd") => `(tactic| repeat walk_at "rd1")
local macro_rules | `(tactic| walk_at "ds") => `(tactic| dsimp only [tNil, tCons, tC, tNoPart, tPart, tCB, tOp, tTest, tB, tCall, List.nil_append, List.cons_append, List.append_nil])
local macro_rules | `(tactic| walk_at "tup") => `(tactic| (intro t nt))

section
variable {P : Program} {w : World} {K : PySem.W.Frag} {mg : Str → Option Value} {base : Heap}
theorem ok_l_owners_step (T : Tx K mg) (d : Nat) (G_l_owners : FnOk P w K mg base CX0 (d + 2) T.l_owners.f T.l_owners.d P_l_owners (spOwn K d)) :
    FnOk P w K mg base CX0 (d + 3) T.l_owners.f T.l_owners.d P_l_owners (spOwn K (d + 1)) := by
  refine T.l_owners.F.ok sc_l_owners (fun vs H Q E h => ?_) (fun cdv A outer s' H vs Q X hr hsp => ?_)
  · obtain ⟨v, e, n, o, rfl, _⟩ := h
    rfl
  obtain ⟨v, e, n, o, rfl, me, eh, hd9, es, n0, q⟩ := hsp
  refine ⟨_, (pss_cons (ps_set (i := 2) sc_l_owners.nd rfl (Or.inl rfl) pe_dnewK)
    (pss_cons (ps_if (pt_cmpR op_eq (pe_ix (ixT (K := K) rfl) (pv 0) pe_int (fun _ _ => rfl)) pe_str (nomark _)) (pss_one (ps_set (i := 1) sc_l_owners.nd rfl (Or.inl rfl) (pe_ix (ixT (K := K) rfl) (pv 0) pe_int (fun _ _ => rfl)))) pss_nil)
    (pss_cons (ps_if (pt_cmpR op_ge (pe_ix (ixT (K := K) rfl) (pv 0) pe_int (fun _ _ => rfl)) pe_int (nomark _)) (pss_one (ps_dput (hu_of hr) (pv 2) (pe_ix (ixT (K := K) rfl) (pv 0) pe_int (fun _ _ => rfl)) (pv 1) rfl)) pss_nil)
    (pss_cons (ps_for PassesOwn.never rfl (piL (K := K) rfl (pe_cl T.l_parts (ok_l_parts T) hr (by first | decide | omega) (by rfl) (pa_cons (pe_slice (slT (K := K) rfl) (pv 0) (po_some pe_int) po_none) pa_nil))) (pg_name (i := 3) sc_l_owners.nd rfl (Or.inl rfl)) (pss_one (ps_expr (pe_dupd (pv 2) (pe_cl T.l_owners (G_l_owners) hr (by first | decide | omega) (by rfl) (pa_cons (pv 3) (pa_cons (pv 1) pa_nil))) ⟨by rfl, by rfl, by rfl, by rfl⟩))))
    (pss_one (ps_ret (pv 2))))))), ?_⟩
  obtain ⟨p, vs, rfl, hp, hi⟩ := me.node
  walk_at "rd"
  intro F nF
  have x1 : Ext [] H (upd H F (.dK [])) := Ext.new nF
  have hF : upd H F (.dK []) F = some (.dK []) := upd_same
  generalize upd H F (.dK []) = H1 at x1 hF ⊢
  have hil := hi.len
  have hel := e.its_len
  have hkm : ∀ c ∈ e.kids, c.hgt ≤ d ∧ c.size ≤ 60 := fun c hc => ⟨E.its_hgt eh (kids_mem hc), Nat.le_trans (E.kids_size hc) es⟩
  dsimp only [gName]
  refine seq_cut (fun σ' H' => H' = H1 ∧ σ' = [some (.ref p), some (oV (e.ow n o)), some (.ref F), none]) (fun rest => ?main) ?rest
  case main =>
    walk_at "rd"
    refine ⟨p, _, 1, _, rfl, rfl, x1.seqT hp, atI_nat (j := 1) rfl, ?_⟩
    walk_at "rd"
    by_cases hf : ∃ k b, e = .efun k b
    · obtain ⟨k, b, rfl⟩ := hf
      refine ite2 (fun _ => ?_) (fun c => absurd wq_fun_fun c)
      walk_at "rd"
      refine ⟨p, _, 0, _, rfl, rfl, x1.seqT hp, atI_nat (j := 0) rfl, ?_⟩
      exact rest _ _ ⟨rfl, rfl⟩
    · have hw : decide (V.str e.word = V.str "fun") = false := by
        cases e with
        | efun n b => exact absurd ⟨n, b, rfl⟩ hf
        | num n => exact wq_num_fun
        | nam _ => exact wq_name_fun
        | plus _ _ => exact wq_plus_fun
        | elet _ _ _ => exact wq_let_fun
        | call _ _ => exact wq_call_fun
        | eif _ _ _ => exact wq_if_fun
      refine ite2 (fun c => absurd c (by rw [hw]; decide)) (fun _ => ?_)
      have ho : e.ow n o = o := by
        cases e with
        | efun n b => exact absurd ⟨n, b, rfl⟩ hf
        | _ => rfl
      exact rest _ _ ⟨rfl, by rw [ho]; rfl⟩
  case rest =>
  rintro _ _ ⟨rfl, rfl⟩
  refine seq_cut (fun σ' H' => Ext [] H H' ∧ H' F = some (.dK (oK (e.own0 n (e.ow n o)))) ∧ σ' = [some (.ref p), some (oV (e.ow n o)), some (.ref F), none]) (fun rest => ?main) ?rest
  case main =>
    walk_at "rd"
    refine ⟨p, _, 0, _, rfl, rfl, x1.seqT hp, atI_nat (j := 0) rfl, ?_⟩
    walk_at "rd"
    by_cases hb : e.binds = true
    · have hh : e.here n = n := if_pos hb
      rw [hh]
      refine ite2 (fun _ => ?_) (fun c => absurd (decide_eq_true n0) c)
      have h00 : atI (V.int (e.here n) :: V.str e.word :: vs) 0 = some (.int n) := by rw [hh]; exact atI_nat (j := 0) rfl
      walk_at "rd"
      refine ⟨p, _, 0, _, rfl, rfl, x1.seqT hp, h00, ?_⟩
      refine ⟨F, _, rfl, DPut.k (k := Sum.inl n) hF (by decide), ?_⟩
      have h0 : e.own0 n (e.ow n o) = [(n, e.ow n o)] := if_pos hb
      exact rest _ _ ⟨x1.mut nF, by rw [upd_same, h0]; rfl, rfl⟩
    · have hh : e.here n = 0 - 1 := if_neg hb
      rw [hh]
      refine ite2 (fun c => absurd (cdec c) (by decide)) (fun _ => ?_)
      have h0 : e.own0 n (e.ow n o) = [] := if_neg hb
      exact rest _ _ ⟨x1, by rw [h0]; exact hF, rfl⟩
  case rest =>
  rintro _ H2 ⟨x2, hF2, rfl⟩
  walk_at "rd"
  refine ⟨p, _, rfl, x2.seqT hp, cut1_not _ _, fun T1 nT => ?_⟩
  rw [cut1]
  have x3 : Ext [] H2 (upd H2 T1 (.tup (.str e.word :: vs))) := Ext.new nT
  have hT1 : upd H2 T1 (.tup (.str e.word :: vs)) T1 = some (.tup (.str e.word :: vs)) := upd_same
  generalize upd H2 T1 (.tup (.str e.word :: vs)) = H3 at x3 hT1 ⊢
  have hF3 := x3.dk hF2
  have x03 := x2.trans x3
  walk_at "rd"
  refine ⟨T1, _, vs, rfl, SqT.of hT1, by omega, fun v hv => (hi.pl v hv).ext x03, fun PL H4 x4 nPL hPL => ?_⟩
  have mk := (hi.ext (x03.trans x4)).kids
  have mkl := mk.len
  have hF4 := x4.dk hF3
  have nPF : PL ≠ F := fun z => by rw [z, hF3] at nPL; cases nPL
  have x04 := x03.trans x4
  obtain ⟨or1, or2⟩ := e.owners_rise n o
  have osz := e.sites_le
  refine ⟨PL, rfl, ⟨_, SqL.of hPL⟩, ?_⟩
  refine for_list (K := K) (a := PL) (xs := vs.filter isR) (fun i σ H' => ∃ o3 : Option V, Ext [] H H' ∧ Exf F H4 H' ∧ H' F = some (.dK (oK (e.own0 n (e.ow n o) ++ owl (e.kids.take i) (n + bI e.binds) (e.ow n o)))) ∧
      σ = [some (.ref p), some (oV (e.ow n o)), some (.ref F), o3])
    ⟨none, x04, fun _ _ h _ => h, by rw [List.take_zero]; show H4 F = some (.dK (oK (_ ++ []))); rw [List.append_nil]; exact hF4, rfl⟩ (fun i σ H' _ ⟨_, _, y, _⟩ => SqL.of (y _ _ hPL nPF)) ?_ ?_
  · rintro i y σ H5 hy ⟨o3, x5, y5, hF5, rfl⟩
    obtain ⟨c, hc, mc⟩ := (MTs.tk (y5.tk hF4) mk).at hy
    replace hc : e.kids[i]? = some c := hc
    have hcm := List.mem_of_getElem? hc
    obtain ⟨ch, cs⟩ := hkm c hcm
    walk_at "rd"
    refine ⟨.inl ⟨_, .inl hF5⟩, ?_⟩
    have nn : 0 ≤ sitesE (e.kids.take i) := sitesE_nonneg _
    have nb : 0 ≤ bI e.binds := by unfold bI; split <;> decide
    walk_at "rd"
    refine ⟨y, c, n + bI e.binds + sitesE (e.kids.take i), e.ow n o, rfl, mc, ch, by omega, cs, by omega, fun G H6 x6 nG hG => ?_⟩
    have nFG : F ≠ G := fun z => by rw [← z, hF5] at nG; cases nG
    obtain ⟨r, hr2⟩ := owl_split e.kids (n + bI e.binds) (e.ow n o) (i + 1)
    have eall := E.owners_kids e n o
    rw [hr2, owl_take _ _ _ _ _ hc, ← List.append_assoc, ← List.append_assoc] at eall
    have hpre : (((e.own0 n (e.ow n o) ++ owl (e.kids.take i) (n + bI e.binds) (e.ow n o)) ++ c.owners (n + bI e.binds + sitesE (e.kids.take i)) (e.ow n o)).map (·.1)).Pairwise (· < ·) := by
      have hp := or1.1
      rw [eall, List.map_append] at hp
      exact (List.pairwise_append.mp hp).1
    have hlen := congrArg List.length eall
    rw [or2, List.length_append] at hlen
    have hnd := oK_nodup hpre
    have hl2 : (oK ((e.own0 n (e.ow n o) ++ owl (e.kids.take i) (n + bI e.binds) (e.ow n o)) ++ c.owners (n + bI e.binds + sitesE (e.kids.take i)) (e.ow n o))).length ≤ 60 := by
      unfold oK
      rw [List.length_map]
      omega
    rw [show ∀ a b, oK (a ++ b) = oK a ++ oK b from fun a b => List.map_append] at hnd hl2
    have em := mergeK_app _ _ hnd
    rw [List.length_append] at hl2
    refine ⟨G, _, _, rfl, nFG, x6.dk hF5, hG, Nat.le_of_lt (small1000 (by omega)), Nat.le_of_lt (small1000 (by rw [em, List.length_append]; omega)), ?_⟩
    refine ⟨some y, (x5.trans x6).mut nF, fun b o' hb hbF => ?_, ?_, rfl⟩
    · rw [upd_ne hbF]
      exact x6 _ _ (y5 b o' hb hbF) (.inl fun z => nomatch z)
    · rw [upd_same, em, owl_take _ _ _ _ _ hc, ← List.append_assoc]
      exact congrArg (fun l => some (HO.dK l)) (List.map_append).symm
  · rintro σ H5 ⟨o3, x5, y5, hF5, rfl⟩
    walk_at "rd"
    refine q F H5 x5 nF ?_
    rw [mkl, show (kidsOf e.its) = e.kids from rfl, List.take_length, ← E.owners_kids] at hF5
    exact hF5
theorem ok_l_owners (T : Tx K mg) : ∀ d : Nat, FnOk P w K mg base CX0 (d + 2) T.l_owners.f T.l_owners.d P_l_owners (spOwn K d)
  | 0 => (fn_never 2).imp fun vs H Q E ⟨v, e, _, _, _, _, h, _⟩ => by cases e <;> simp [Env.E.hgt] at h
  | n + 1 => ok_l_owners_step T n (ok_l_owners T n)
end
end Env
end
section
set_option Elab.async false
set_option linter.all false
set_option maxRecDepth 100000
set_option maxHeartbeats 4000000
namespace Env
open PySem L2
local macro_rules | `(tactic| walk_at "side") => `(tactic| first
  | assumption
  | ((try dsimp only); omega)
  | decide
  | exact ⟨by omega, by omega⟩
  | exact .inr ⟨by decide, by decide⟩
  | exact .inl ⟨by omega, by omega⟩)
local macro_rules | `(tactic| walk_at "rd1") => `(tactic| first
  | with_reducible refine Exists.intro _ (And.intro rfl ?_)
  | refine Exists.intro _ (And.intro rfl ?_)
  | refine ⟨_, _, rfl, rfl, ?_⟩
  | refine And.intro rfl ?_
  | refine ⟨_, _, _, _, rfl, rfl, SqL.of (by assumption), rfl, ?_⟩
  | refine ⟨_, _, _, _, rfl, rfl, SqL.of upd_same, rfl, ?_⟩
  | refine And.intro (szb rfl) ?_
  | refine And.intro (Or.inl (And.intro rfl (Exists.intro _ (SqL.of (by assumption))))) ?_
  | refine Or.inl (Exists.intro _ (And.intro rfl ?_))
  | refine Or.inr (Exists.intro _ (And.intro rfl ?_))
  | refine And.intro (by walk_at "side") ?_
  | refine ⟨_, _, _, _, rfl, rfl, (by assumption), rfl, ?_⟩
  | refine ⟨_, _, _, _, rfl, rfl, upd_same, rfl, ?_⟩
  | refine ⟨_, _, rfl, .inl (SqL.of (by assumption)), ?_⟩
  | refine ⟨_, _, rfl, .inl (SqL.of upd_same), ?_⟩
  | refine ⟨_, _, rfl, .inl (by assumption), ?_⟩)
local macro_rules | `(tactic| walk_at "rd") => `(tactic| repeat walk_at "rd1")
local macro_rules | `(tactic| walk_at "ds") => `(tactic| dsimp only [tNil, tCons, tC, tNoPart, tPart, tCB, tOp, tTest, tB, tCall, List.nil_append, List.cons_append, List.append_nil])
local macro_rules | `(tactic| walk_at "tup") => `(tactic| (intro t nt))

section
variable {P : Program} {w : World} {K : PySem.W.Frag} {mg : Str → Option Value} {base : Heap}
theorem ok_is_whole (T : Tp K w mg) : FnOk P w K mg base CX0 1 T.is_whole.f T.is_whole.d P_is_whole spWhole := by
  refine T.is_whole.F.ok sc_is_whole (fun vs H Q E h => ?_) (fun cdv A outer s' H vs Q X hr hsp => ?_)
  · obtain ⟨x, lo, hi, rfl, _⟩ := h
    rfl
  obtain ⟨x, lo, hi, rfl, h1, h2, q⟩ := hsp
  refine ⟨_, (pss_cons (ps_if (PW.pt (pw_or (pt_val (pe_callB (id := "isinstance") (isiK (K := K) rfl) (by rfl) T.B.b_isinstance (by decide +kernel) (pa_cons (pv 0) (pa_cons (pe_bltn (v := .ty "bool") (u := .type "bool") (by rfl) T.B.b_bool (by decide +kernel) rfl) pa_nil)))) (pw_or1 (pt_not (pt_val (pe_callB (id := "isinstance") (isiK (K := K) rfl) (by rfl) T.B.b_isinstance (by decide +kernel) (pa_cons (pv 0) (pa_cons (pe_bltn (v := .ty "int") (u := .type "int") (by rfl) T.B.b_int (by decide +kernel) rfl) pa_nil)))))))) (pss_one (ps_ret pe_bl)) pss_nil)
    (pss_one (ps_ret (pe_chain op_le op_le (pv 1) (pv 0) (pv 2))))), ?_⟩
  walk_at "rd"
  walk_at "ds"
  refine isiI kb_ib ?_
  walk_at "rd"
  walk_at "ds"
  refine isiI kb_ii ?_
  walk_at "rd"
  rw [if_pos (decide_eq_true h1)]
  walk_at "rd"
  have h3 : decide (x ≤ hi) = true := decide_eq_true h2
  show Q (V.bl (decide (x ≤ hi))) H
  rw [h3]
  exact q
theorem Fm.here {K : PySem.W.Frag} {w : World} {mg : Str → Option Value} (F : Fm K w mg) (e : E) : ∃ p, PySem.W.nsIn K F.a e.word = some (some (.ref p)) ∧ ∀ H : Hp, SqT K H p (e.form.map V.str) := by
  have h := F.at_ e.word e.form (by cases e <;> simp [Env.E.word, Env.E.form])
  obtain ⟨p, o, its, k, h1, h2, h3, h4, h5, h6⟩ := h
  exact ⟨p, h1, fun H => .inr ⟨o, its, k, h2, h3, h4, h5, h6⟩⟩
theorem ok_need_form (T : Tp K w mg) : FnOk P w K mg base CX0 2 T.need_form.f T.need_form.d P_need_form (spNeed K) := by
  refine T.need_form.F.ok sc_need_form (fun vs H Q E h => ?_) (fun cdv A outer s' H vs Q X hr hsp => ?_)
  · obtain ⟨v, e, S, rfl, _⟩ := h
    rfl
  obtain ⟨v, e, S, rfl, te, ok, q⟩ := hsp
  refine ⟨_, (pss_cons (ps_if (PW.pt (pw_or (pt_not (pt_val (pe_callB (id := "isinstance") (isiK (K := K) rfl) (by rfl) T.B.b_isinstance (by decide +kernel) (pa_cons (pv 0) (pa_cons (pe_bltn (v := .ty "tuple") (u := .type "tuple") (by rfl) T.B.b_tuple (by decide +kernel) rfl) pa_nil))))) (pw_or1 (pt_cmpR op_eq (pe_callB (id := "len") (lenS (K := K) rfl) (by rfl) T.B.b_len (by decide +kernel) (pa_cons (pv 0) pa_nil)) pe_int (nomark _))))) (pss_one ps_never) pss_nil)
    (pss_cons (ps_set (i := 1) sc_need_form.nd rfl (Or.inl rfl) (pe_ix (ixT (K := K) rfl) (pv 0) pe_int (fun _ _ => rfl)))
    (pss_cons (ps_if (PW.pt (pw_or (pt_not (pt_val (pe_callB (id := "isinstance") (isiK (K := K) rfl) (by rfl) T.B.b_isinstance (by decide +kernel) (pa_cons (pv 1) (pa_cons (pe_bltn (v := .ty "str") (u := .type "str") (by rfl) T.B.b_str (by decide +kernel) rfl) pa_nil))))) (pw_or1 (pt_cmpR (op_notIn_kd T.forms.D) (pv 1) (pe_glob (v := .ref T.forms.a) (by rfl) T.forms.m rfl) (by rfl))))) (pss_one ps_never) pss_nil)
    (pss_cons (ps_set (i := 2) sc_need_form.nd rfl (Or.inl rfl) (pe_ix ix_kdict (pe_glob (v := .ref T.forms.a) (by rfl) T.forms.m rfl) (pv 1) (fun _ _ => rfl)))
    (pss_cons (ps_if (pt_cmpR op_ne (pe_callB (id := "len") (lenS (K := K) rfl) (by rfl) T.B.b_len (by decide +kernel) (pa_cons (pv 0) pa_nil)) (pe_op op_add pe_int (pe_callB (id := "len") (lenS (K := K) rfl) (by rfl) T.B.b_len (by decide +kernel) (pa_cons (pv 2) pa_nil))) (nomark _)) (pss_one ps_never) pss_nil)
    (pss_one (ps_for PassesOwn.never rfl (RZ.pi_zipA (by rfl) T.B.b_zip (pa_cons (pv 2) (pa_cons (pe_slice (slT (K := K) rfl) (pv 0) (po_some pe_int) po_none) pa_nil))) (pg_tup (by rfl) (pgs_cons (pg_name (i := 3) sc_need_form.nd rfl (Or.inl rfl)) (pgs_cons (pg_name (i := 4) sc_need_form.nd rfl (Or.inl rfl)) pgs_nil))) (pss_cons (ps_if (PW.pt (pw_and (pt_cmpR op_eq (pv 3) pe_str (nomark _)) (pw_and1 (pt_not (pt_val (pe_cl T.is_whole (ok_is_whole T) hr (by first | decide | omega) (by rfl) (pa_cons (pv 4) (pa_cons pe_int (pa_cons (pe_glob (v := .int 999) (by rfl) T.k_HIGHEST_NUMBER ⟨_, rfl⟩) pa_nil))))))))) (pss_one ps_never) pss_nil)
    (pss_one (ps_if (PW.pt (pw_and (pt_cmpR op_eq (pv 3) pe_str (nomark _)) (pw_and1 (pt_not (pt_val (pe_cl T.is_whole (ok_is_whole T) hr (by first | decide | omega) (by rfl) (pa_cons (pv 4) (pa_cons pe_int (pa_cons (pe_glob (v := .int 9) (by rfl) T.k_HIGHEST_NAME ⟨_, rfl⟩) pa_nil))))))))) (pss_one ps_never) pss_nil)))))))))), ?_⟩
  obtain ⟨p, vs, rfl, hp, hi⟩ := te.node
  have hl := hi.len
  have el := e.its_len
  obtain ⟨fp, f1, f2⟩ := T.forms.here e
  walk_at "rd"
  walk_at "ds"
  refine isi_tup hp ?_
  walk_at "rd"
  refine ⟨p, _, rfl, .inr hp, ?_⟩
  walk_at "rd"
  refine ⟨p, _, 0, _, rfl, rfl, hp, atI_nat (j := 0) rfl, ?_⟩
  walk_at "rd"
  walk_at "ds"
  refine isiG (.base (.str _)) kb_ss ?_
  walk_at "rd"
  refine ⟨_, _, rfl, rfl, f1, ?_⟩
  walk_at "rd"
  refine ⟨_, _, .ref fp, rfl, rfl, ⟨_, _, _, T.forms.D.at_, T.forms.D.lit, f1, rfl⟩, ?_⟩
  walk_at "rd"
  refine ⟨p, _, rfl, .inr hp, ?_⟩
  walk_at "rd"
  refine ⟨fp, _, rfl, .inr (f2 H), ?_⟩
  walk_at "rd"
  have hlen : (!decide (V.int ((V.str e.word :: vs).length : Nat) = V.int (1 + ((List.map V.str e.form).length : Nat)))) = false := by
    rw [List.length_cons, List.length_map, form_len, ← hl, decide_eq_true (congrArg V.int (by omega))]
    rfl
  refine ite2 (fun c => absurd (hlen.symm.trans c) Bool.false_ne_true) (fun _ => ?_)
  walk_at "rd"
  refine ⟨p, _, rfl, hp, cut1_not _ _, fun T1 nT => ?_⟩
  rw [cut1]
  walk_at "rd"
  have x1 : Ext [] H (upd H T1 (.tup vs)) := Ext.new nT
  refine ⟨fp, T1, _, _, rfl, .inr ⟨f2 _, SqT.of upd_same, ?_⟩⟩
  refine RZ.for_zipT (K := K) (a := fp) (b := T1) (xs := e.form.map V.str) (ys := vs) (by rw [List.length_map, form_len, hl])
    (fun i σ H' => ∃ o3 o4 : Option V, Ext [] H H' ∧ H' T1 = some (.tup vs) ∧ σ = [some (.ref p), some (.str e.word), some (.ref fp), o3, o4]) ⟨none, none, x1, upd_same, rfl⟩ (fun i σ H' ⟨_, _, _, h, _⟩ => ⟨f2 _, SqT.of h⟩) ?_ ?_
  · rintro i x y T2 σ H2 hx hy ⟨o3, o4, x2, hT, rfl⟩ nT2
    rw [List.getElem?_map] at hx
    obtain ⟨f, hf, rfl⟩ : ∃ f, e.form[i]? = some f ∧ x = V.str f := by
      cases q : e.form[i]? with
      | none => rw [q] at hx; cases hx
      | some f => rw [q] at hx; exact ⟨f, rfl, (Option.some.inj hx).symm⟩
    have x3 : Ext [] H2 (upd H2 T2 (.tup [.str f, y])) := Ext.new nT2
    have hT2 : SqT K (upd H2 T2 (.tup [.str f, y])) T2 [.str f, y] := SqT.of upd_same
    generalize upd H2 T2 (.tup [.str f, y]) = H3 at x3 hT2 ⊢
    have fin : ∃ o3 o4 : Option V, Ext [] H H3 ∧ H3 T1 = some (.tup vs) ∧ [some (.ref p), some (.str e.word), some (.ref fp), some (.str f), some y] = [some (.ref p), some (.str e.word), some (.ref fp), o3, o4] := ⟨_, _, x2.trans x3, x3.tup hT, rfl⟩
    refine ⟨T2, _, rfl, hT2, rfl, ?_⟩
    refine ⟨_, _, rfl, ?_⟩
    refine ⟨_, _, rfl, ?_⟩
    walk_at "rd"
    have num : ∀ k, e.its[i]? = some (.inl k) → y = .int k := fun k hk => by
      rcases hi.at hy with ⟨m, hm, rfl⟩ | ⟨c, hc, _⟩
      · rw [hk] at hm; cases hm; rfl
      · rw [hk] at hc; cases hc
    rcases form_kind ok hf with ⟨rfl, k, hk, k0, k1⟩ | ⟨rfl, k, hk, k0, k1⟩ | rfl
    · obtain rfl := num k hk
      refine ite2 (fun _ => ?_) (fun c => absurd wq_nn c)
      walk_at "rd"
      refine ⟨k, 0, 999, rfl, k0, k1, ?_⟩
      walk_at "rd"
      refine ite2 (fun c => absurd (wq_nm.symm.trans c) Bool.false_ne_true) (fun _ => ?_)
      walk_at "rd"
      exact fin
    · obtain rfl := num k hk
      refine ite2 (fun c => absurd (wq_mn.symm.trans c) Bool.false_ne_true) (fun _ => ?_)
      walk_at "rd"
      refine ⟨k, 0, 9, rfl, k0, k1, ?_⟩
      walk_at "rd"
      exact fin
    · refine ite2 (fun c => absurd (wq_pn.symm.trans c) Bool.false_ne_true) (fun _ => ?_)
      walk_at "rd"
      refine ite2 (fun c => absurd (wq_pm.symm.trans c) Bool.false_ne_true) (fun _ => ?_)
      walk_at "rd"
      exact fin
  · rintro σ H2 ⟨o3, o4, x2, hT, rfl⟩
    exact q H2 x2
end
end Env
end
section
set_option Elab.async false
set_option linter.all false
set_option maxRecDepth 100000
set_option maxHeartbeats 4000000
namespace Env
open PySem L2
local macro_rules | `(tactic| walk_at "side") => `(tactic| first
  | assumption
  | ((try dsimp only); omega)
  | decide
  | exact ⟨by omega, by omega⟩
  | exact .inr ⟨by decide, by decide⟩
  | exact .inl ⟨by omega, by omega⟩)
local macro_rules | `(tactic| walk_at "rd1") => `(tactic| first
  | with_reducible refine Exists.intro _ (And.intro rfl ?_)
  | refine Exists.intro _ (And.intro rfl ?_)
  | refine ⟨_, _, rfl, rfl, ?_⟩
  | refine And.intro rfl ?_
  | refine ⟨_, _, _, _, rfl, rfl, SqL.of (by assumption), rfl, ?_⟩
  | refine ⟨_, _, _, _, rfl, rfl, SqL.of upd_same, rfl, ?_⟩
  | refine And.intro (szb rfl) ?_
  | refine And.intro (Or.inl (And.intro rfl (Exists.intro _ (SqL.of (by assumption))))) ?_
  | refine Or.inl (Exists.intro _ (And.intro rfl ?_))
  | refine Or.inr (Exists.intro _ (And.intro rfl ?_))
  | refine And.intro (by walk_at "side") ?_
  | refine ⟨_, _, _, _, rfl, rfl, (by assumption), rfl, ?_⟩
  | refine ⟨_, _, _, _, rfl, rfl, upd_same, rfl, ?_⟩
  | refine ⟨_, _, rfl, .inl (SqL.of (by assumption)), ?_⟩
  | refine ⟨_, _, rfl, .inl (SqL.of upd_same), ?_⟩
  | refine ⟨_, _, rfl, .inl (by assumption), ?_⟩)
local macro_rules | `(tactic| walk_at "rd") => `(tactic| repeat walk_at "rd1")
local macro_rules | `(tactic| walk_at "ds") => `(tactic| dsimp only [tNil, tCons, tC, tNoPart, tPart, tCB, tOp, tTest, tB, tCall, List.nil_append, List.cons_append, List.append_nil])
local macro_rules | `(tactic| walk_at "tup") => `(tactic| (intro t nt))

section
variable {P : Program} {w : World} {K : PySem.W.Frag} {mg : Str → Option Value} {base : Heap}
theorem ok_init (T : Tp K w mg) : FnOk P w K mg base CX0 1 T.i_Marker.f T.i_Marker.d P_Marker___init__ (spMInit T.C_Marker) := by
  refine T.i_Marker.F.ok sc_Marker___init__ (fun vs H Q E h => ?_) (fun cdv A outer s' H vs Q X hr hsp => ?_)
  · obtain ⟨p, dx, rfl, _⟩ := h
    rfl
  obtain ⟨p, dx, rfl, hp, q⟩ := hsp
  refine ⟨_, (pss_cons (ps_fld (pv 0) pe_int rfl)
    (pss_one (ps_fld (pv 0) pe_int rfl))), ?_⟩
  walk_at "rd"
  refine ⟨p, T.C_Marker, dx, [], rfl, hp, T.c_Marker, T.n_Marker_expressions, Nat.le_of_ble_eq_true rfl, ?_⟩
  walk_at "rd"
  refine ⟨p, T.C_Marker, dx, _, rfl, upd_same, T.c_Marker, T.n_Marker_sites, Nat.le_of_ble_eq_true rfl, ?_⟩
  exact q _ upd_same fun b nb => by rw [upd_ne nb, upd_ne nb]
theorem ok_next_site (T : Tp K w mg) : FnOk P w K mg base CX0 1 T.m_Marker_next_site.f T.m_Marker_next_site.d P_Marker_next_site (spNext T.C_Marker) := by
  refine T.m_Marker_next_site.F.ok sc_Marker_next_site (fun vs H Q E h => ?_) (fun cdv A outer s' H vs Q X hr hsp => ?_)
  · obtain ⟨p, dx, x, s, rfl, _⟩ := h
    rfl
  obtain ⟨p, dx, x, s, rfl, hp, q⟩ := hsp
  refine ⟨_, (pss_cons (ps_set (i := 1) sc_Marker_next_site.nd rfl (Or.inl rfl) (pe_fldK (K := K) rfl (pv 0) rfl))
    (pss_cons (ps_fldaug (pv 0) pe_int in_add)
    (pss_one (ps_ret (pv 1))))), ?_⟩
  walk_at "rd"
  refine ⟨p, T.C_Marker, dx, _, _, rfl, hp, T.c_Marker, T.n_Marker_sites, mf_s _ _, ?_⟩
  walk_at "rd"
  refine ⟨p, T.C_Marker, dx, _, _, rfl, hp, T.c_Marker, T.n_Marker_sites, mf_s _ _, ?_⟩
  walk_at "rd"
  refine ⟨dx, _, hp, mf_len _ _, ?_⟩
  rw [mf_put_s]
  walk_at "rd"
  exact q _ upd_same fun b nb => upd_ne nb
end
end Env
end
section
set_option Elab.async false
set_option linter.all false
set_option maxRecDepth 100000
set_option maxHeartbeats 4000000
namespace Env
open PySem L2
local macro_rules | `(tactic| walk_at "side") => `(tactic| first
  | assumption
  | ((try dsimp only); omega)
  | decide
  | exact ⟨by omega, by omega⟩
  | exact .inr ⟨by decide, by decide⟩
  | exact .inl ⟨by omega, by omega⟩)
local macro_rules | `(tactic| walk_at "rd1") => `(tactic| first
  | with_reducible refine Exists.intro _ (And.intro rfl ?_)
  | refine Exists.intro _ (And.intro rfl ?_)
  | refine ⟨_, _, rfl, rfl, ?_⟩
  | refine And.intro rfl ?_
  | refine ⟨_, _, _, _, rfl, rfl, SqL.of (by assumption), rfl, ?_⟩
  | refine ⟨_, _, _, _, rfl, rfl, SqL.of upd_same, rfl, ?_⟩
  | refine And.intro (szb rfl) ?_
  | refine And.intro (Or.inl (And.intro rfl (Exists.intro _ (SqL.of (by assumption))))) ?_
  | refine Or.inl (Exists.intro _ (And.intro rfl ?_))
  | refine Or.inr (Exists.intro _ (And.intro rfl ?_))
  | refine And.intro (by walk_at "side") ?_
  | refine ⟨_, _, _, _, rfl, rfl, (by assumption), rfl, ?_⟩
  | refine ⟨_, _, _, _, rfl, rfl, upd_same, rfl, ?_⟩
  | refine ⟨_, _, rfl, .inl (SqL.of (by assumption)), ?_⟩
  | refine ⟨_, _, rfl, .inl (SqL.of upd_same), ?_⟩
  | refine ⟨_, _, rfl, .inl (by assumption), ?_⟩)
local macro_rules | `(tactic| walk_at "rd") => `(tactic| repeat walk_at "rd1")
local macro_rules | `(tactic| walk_at "ds") => `(tactic| dsimp only [tNil, tCons, tC, tNoPart, tPart, tCB, tOp, tTest, tB, tCall, List.nil_append, List.cons_append, List.append_nil])
local macro_rules | `(tactic| walk_at "tup") => `(tactic| (intro t nt))

section
variable {P : Program} {w : World} {K : PySem.W.Frag} {mg : Str → Option Value} {base : Heap}
theorem ok_mark_step (T : Tp K w mg) (n : Nat) (G_mark : FnOk P w K mg base CX0 (n + 3) T.m_Marker_mark.f T.m_Marker_mark.d P_Marker_mark (spMark K T.C_Marker n)) :
    FnOk P w K mg base CX0 (n + 4) T.m_Marker_mark.f T.m_Marker_mark.d P_Marker_mark (spMark K T.C_Marker (n + 1)) := by
  refine T.m_Marker_mark.F.ok sc_Marker_mark (fun vs H Q E h => ?_) (fun cdv A outer s' H vs Q X hr hsp => ?_)
  · obtain ⟨a, dx, x, s, v, e, b, kvs, S, ρ, dep, rfl, _⟩ := h
    rfl
  obtain ⟨a, dx, x, s, v, e, b, kvs, S, ρ, dep, rfl, ha, te, eh, d0, d8, x0, x60, hb, hk, ok, kn, q⟩ := hsp
  refine ⟨_, (pss_cons (ps_fldaug (pv 0) pe_int in_add)
    (pss_cons (ps_if (PW.pt (pw_or (pt_cmpR op_gt (pv 3) (pe_glob (v := .int 7) (by rfl) T.k_MOST_AROUND ⟨_, rfl⟩) (nomark _)) (pw_or1 (pt_cmpR op_gt (pe_fldK (K := K) rfl (pv 0) rfl) (pe_glob (v := .int 60) (by rfl) T.k_MOST_EXPRESSIONS ⟨_, rfl⟩) (nomark _))))) (pss_one ps_never) pss_nil)
    (pss_cons (ps_expr (pe_cl T.need_form (ok_need_form T) hr (by first | decide | omega) (by rfl) (pa_cons (pv 1) pa_nil)))
    (pss_one (ps_match (pv 1) (pcs_word (K := K) rfl rfl sc_Marker_mark.nd (.cons (i := 4) rfl (Or.inl rfl) (Or.inr rfl) .nil) (pss_cons (ps_if (pt_cmp (pc_dnotin (hu_of hr) (pv 4) (pv 2))) (pss_one ps_never) pss_nil)
    (pss_one (ps_ret (pe_tup (pa_cons pe_str (pa_cons (pe_dget (hu_of hr) (pv 2) (pv 4) (fun _ _ => rfl)) pa_nil))))))
      (pcs_word (K := K) rfl rfl sc_Marker_mark.nd (.cons (i := 5) rfl (Or.inl rfl) (Or.inr rfl) .nil) (pss_one (ps_ret (pe_tup (pa_cons pe_str (pa_cons (pv 5) pa_nil)))))
      (pcs_word (K := K) rfl rfl sc_Marker_mark.nd (.cons (i := 4) rfl (Or.inl rfl) (Or.inr rfl) (.cons (i := 6) rfl (Or.inl rfl) (Or.inr rfl) (.cons (i := 7) rfl (Or.inl rfl) (Or.inr rfl) .nil))) (pss_cons (ps_set (i := 8) sc_Marker_mark.nd rfl (Or.inl rfl) (pe_meth0 (pv 0) T.c_Marker T.m_Marker_next_site.m (ok_next_site T) (hr.mono (by first | decide | omega)) T.m_Marker_next_site.b .nil pass0))
    (pss_cons (ps_set (i := 9) sc_Marker_mark.nd rfl (Or.inl rfl) (pe_meth (pv 0) T.c_Marker T.m_Marker_mark.m (G_mark) (hr.mono (by first | decide | omega)) T.m_Marker_mark.b .nil pass0 (pa_cons (pv 6) (pa_cons (pv 2) (pa_cons (pe_op op_add (pv 3) pe_int) pa_nil)))))
    (pss_one (ps_ret (pe_tup (pa_cons pe_str (pa_cons (pv 8) (pa_cons (pv 9) (pa_cons (pe_meth (pv 0) T.c_Marker T.m_Marker_mark.m (G_mark) (hr.mono (by first | decide | omega)) T.m_Marker_mark.b .nil pass0 (pa_cons (pv 7) (pa_cons (pe_dover (pv 2) (pv 4) (pv 8)) (pa_cons (pe_op op_add (pv 3) pe_int) pa_nil)))) pa_nil)))))))))
      (pcs_word (K := K) rfl rfl sc_Marker_mark.nd (.cons (i := 4) rfl (Or.inl rfl) (Or.inr rfl) (.cons (i := 10) rfl (Or.inl rfl) (Or.inr rfl) .nil)) (pss_cons (ps_set (i := 8) sc_Marker_mark.nd rfl (Or.inl rfl) (pe_meth0 (pv 0) T.c_Marker T.m_Marker_next_site.m (ok_next_site T) (hr.mono (by first | decide | omega)) T.m_Marker_next_site.b .nil pass0))
    (pss_one (ps_ret (pe_tup (pa_cons pe_str (pa_cons (pv 8) (pa_cons (pe_meth (pv 0) T.c_Marker T.m_Marker_mark.m (G_mark) (hr.mono (by first | decide | omega)) T.m_Marker_mark.b .nil pass0 (pa_cons (pv 10) (pa_cons (pe_dover (pv 2) (pv 4) (pv 8)) (pa_cons (pe_op op_add (pv 3) pe_int) pa_nil)))) pa_nil)))))))
      (pcs_head (K := K) rfl rfl sc_Marker_mark.nd (.cons (i := 11) rfl (Or.inl rfl) (Or.inr rfl) (.cons (i := 12) rfl (Or.inl rfl) (Or.inr rfl) .nil)) (pss_one (ps_ret (pe_tup (pa_cons (pv 11) (pa_starK (K := K) rfl (pe_lc (own := [("each", 13)]) (g := gName 13) (tt := tYes) (by rfl) sc_Marker_mark.nd (piL (K := K) rfl (pv 12)) (blkOk_by (N := N_Marker_mark) (sc := defScope s_Marker_mark) (by decide +kernel)) (fun _ _ _ _ _ => (pg_name (i := 13) sc_Marker_mark.nd rfl (Or.inl rfl))) (fun _ _ _ _ _ => pts_nil) (fun _ _ _ _ _ => (pe_meth (pv 0) T.c_Marker T.m_Marker_mark.m (G_mark) (hr.mono (by first | decide | omega)) T.m_Marker_mark.b .nil pass0 (pa_cons (pv 13) (pa_cons (pv 2) (pa_cons (pe_op op_add (pv 3) pe_int) pa_nil)))))) pa_nil))))))))))))))), ?_⟩
  have hp1 := e.hgt_pos
  have sp1 := e.size_pos
  walk_at "rd"
  refine ⟨a, T.C_Marker, dx, _, _, rfl, ha, T.c_Marker, T.n_Marker_expressions, mf_e _ _, ?_⟩
  walk_at "rd"
  refine ⟨dx, _, ha, mf_len _ _, ?_⟩
  rw [mf_put_e]
  have y1 : Exf a H (upd H a (.ins T.C_Marker dx (mf (x + 1) s))) := Exf.of fun b nb => upd_ne nb
  have ha1 : upd H a (.ins T.C_Marker dx (mf (x + 1) s)) a = some (.ins T.C_Marker dx (mf (x + 1) s)) := upd_same
  generalize upd H a (.ins T.C_Marker dx (mf (x + 1) s)) = H1 at y1 ha1 ⊢
  have te1 := TE.tk (y1.tkI ha) te
  have nba : b ≠ a := ne_of hb ha fun z => nomatch z
  have hb1 := y1 b _ hb nba
  walk_at "rd"
  refine ite2 (fun c => absurd (cdec c) (by omega)) (fun _ => ?_)
  walk_at "rd"
  refine ⟨a, T.C_Marker, dx, _, _, rfl, ha1, T.c_Marker, T.n_Marker_expressions, mf_e _ _, ?_⟩
  walk_at "rd"
  refine ite2 (fun c => absurd (cdec c) (by omega)) (fun _ => ?_)
  walk_at "rd"
  refine ⟨v, e, S, rfl, te1, ok, fun H2 x2 => ?_⟩
  have ha2 : H2 a = some (.ins T.C_Marker dx (mf (x + 1) s)) := x2 _ _ ha1 (.inr fun _ z => nomatch z)
  have hb2 := x2.dk hb1
  have te2 := TE.ext x2 te1
  have y2 := y1.trans (Exf.ext x2)
  have fin : ∀ (u : V) (H' : Hp) (y z : Int), Exf a H2 H' → H' a = some (.ins T.C_Marker dx (mf y z)) → y = x + e.size → z = s + e.sites → TE K H' u (e.mk s ρ) → Q u H' := fun u H' y z h1 h2 h3 h4 h5 => q u H' (y2.trans h1) (by rw [h2, h3, h4]) h5
  clear q te te1 y1 x2 ha hb ha1 hb1 y2 H1
  walk_at "rd"
  by_cases hh : e.isHead = true
  · obtain ⟨w1, w2, w3, w4⟩ := E.head_words hh
    obtain ⟨z1, z2, z3⟩ := E.head_size hh
    obtain ⟨p, vs, rfl, hp, hi⟩ := te2.node
    have hl := hi.len
    have hvs := hi.heads hh
    have hvl := hvs.len
    refine ⟨p, _, vs, rfl, hp, by omega, fun c => absurd c.1 w1, fun _ => ?_⟩
    refine ⟨p, _, vs, rfl, hp, by omega, fun c => absurd c.1 w2, fun _ => ?_⟩
    refine ⟨p, _, vs, rfl, hp, by omega, fun c => absurd c.1 w3, fun _ => ?_⟩
    refine ⟨p, _, vs, rfl, hp, by omega, fun c => absurd c.1 w4, fun _ => ?_⟩
    refine ⟨p, _, vs, rfl, hp, by omega, fun L nL => ?_⟩
    have x3 := Ext.new (ms := []) (o := .lst vs) nL
    have hL : upd H2 L (.lst vs) L = some (.lst vs) := upd_same
    generalize upd H2 L (.lst vs) = H3 at x3 hL ⊢
    have ha3 : H3 a = some (.ins T.C_Marker dx (mf (x + 1) s)) := x3 _ _ ha2 (.inr fun _ z => nomatch z)
    have hb3 := x3.dk hb2
    have hvs3 := hvs.ext x3
    have nLa : L ≠ a := ne_of hL ha3 fun z => nomatch z
    walk_at "rd"
    refine ⟨⟨_, SqL.of hL⟩, fun D nD => ?_⟩
    have nLD : L ≠ D := fun z => by rw [z, nD] at hL; cases hL
    have naD : D ≠ a := fun z => by rw [z, ha3] at nD; cases nD
    have xD := Ext.new (ms := []) (o := .lst []) nD
    refine lc_list (K := K) (a := L) (xs := vs) (fun i H' => ∃ ws, Exf a H3 H' ∧ H' L = some (.lst vs) ∧ H' D = some (.lst ws) ∧ H' a = some (.ins T.C_Marker dx (mf (x + 1 + sizesE (e.kids.take i)) (s + sitesE (e.kids.take i)))) ∧ TEs K H' ws (mkl (e.kids.take i) s ρ) ∧ ws.length ≤ i)
      ⟨[], Exf.ext xD, by rw [upd_ne nLD]; exact hL, upd_same, ?_, by rw [List.take_zero]; trivial, Nat.le_refl _⟩ (fun i H' _ ⟨_, _, h, _⟩ => SqL.of h) ?_ ?_
    · rw [List.take_zero, show x + 1 + sizesE [] = x + 1 from Int.add_zero _, show s + sitesE [] = s from Int.add_zero _]
      exact xD _ _ ha3 (.inr fun _ z => nomatch z)
    · rintro i y H4 hy ⟨ws, g1, g2, g3, g4, g5, g6⟩
      obtain ⟨c, hc, tc⟩ := (hvs3.tk (g1.tkI ha3)).at hy
      have hcm := List.mem_of_getElem? hc
      have iv := (List.getElem?_eq_some_iff.mp hy).1
      obtain ⟨r1, r2⟩ := sizes_take _ _ _ hc
      have r3 := sites_take _ _ _ hc
      have ch := E.its_hgt eh (kids_mem hcm)
      have ch2 : c.hgt + 1 ≤ e.hgt := E.its_hgt (n := e.hgt - 1) (by omega) (kids_mem hcm) |> fun z => by omega
      have nn : ∀ l : List E, 0 ≤ sizesE l := fun l => by
        induction l with
        | nil => exact Int.le_refl 0
        | cons a l ih => show 0 ≤ (a.size : Int) + sizesE l; omega
      have nz := nn (e.kids.take i)
      refine ⟨rfl, ?_⟩
      walk_at "rd"
      refine ⟨a, dx, _, rfl, g4, mf_no _ _ ne_me ne_ms, ?_⟩
      walk_at "rd"
      refine ⟨a, dx, _, _, y, c, b, kvs, S, ρ, dep + 1, rfl, g4, tc, ch, by omega, by omega, by omega, by omega, g1 b _ hb3 nba, by omega, E.head_ok hh ok c hcm, kn, fun u H5 y5 ha5 w5 => ?_⟩
      have hD5 := y5 D _ g3 naD
      have xx : Ext [D] H5 (upd H5 D (.lst (ws ++ [u]))) := Ext.put hD5 (List.mem_singleton.mpr rfl)
      have gE : Exf a H3 (upd H5 D (.lst (ws ++ [u]))) := fun b' o h nb => by
        rw [upd_ne (ne_of_none h nD)]
        exact y5 b' o (g1 b' o h nb) nb
      refine ⟨ws, hD5, small1000 (by omega), ws ++ [u], gE, by rw [upd_ne nLD]; exact y5 L _ g2 nLa, upd_same, ?_, ?_, by rw [List.length_append]; exact Nat.succ_le_succ g6⟩
      · rw [upd_ne naD.symm, r1, r3, ← Int.add_assoc, ← Int.add_assoc]
        exact ha5
      · rw [mkl_take _ _ _ _ _ hc]
        exact ((g5.tk (y5.tkI g4)).ext xx).app ⟨TE.ext xx w5, trivial⟩
    · rintro H4 ⟨ws, g1, g2, g3, g4, g5, g6⟩
      rw [hvl, List.take_length] at g4 g5
      walk_at "rd"
      refine ⟨D, ws, rfl, .inr (SqL.of g3), ?_⟩
      refine And.intro (Nat.le_of_lt (small1000 (by rw [List.length_cons, List.length_append, List.length_nil]; omega))) fun t nt => ?_
      rw [List.append_nil]
      have x7 := Ext.new (ms := []) (o := .tup (.str e.word :: ws)) nt
      refine fin (.ref t) _ _ _ ((Exf.ext x3).trans (g1.trans (Exf.ext x7))) (x7 _ _ g4 (.inr fun _ z => nomatch z)) (by omega) (by omega) (TEs.head hh (g5.ext x7) (SqT.of upd_same))
  cases e with
  | nam k =>
    obtain ⟨p, rfl, hp⟩ := te2
    refine ⟨p, _, [.int k], rfl, hp, Nat.le_of_ble_eq_true rfl, fun _ => ?_, fun c => absurd ⟨rfl, rfl⟩ c⟩
    walk_at "rd"
    have hg := DGet.k (k := Sum.inl k) hb2
    rw [kn k ok.2.2] at hg
    refine ⟨b, _, rfl, hg, ?_⟩
    walk_at "rd"
    refine ⟨b, _, rfl, hg, ?_⟩
    walk_at "rd"
    intro t nt
    have x3 := Ext.new (ms := []) (o := .tup [.str "name", .int (ρ k)]) nt
    exact fin (.ref t) _ (x + 1) s (Exf.ext x3) (x3 _ _ ha2 (.inr fun _ z => nomatch z)) rfl (by show s = s + 0; omega) ⟨t, rfl, SqT.of upd_same⟩
  | num k =>
    obtain ⟨p, rfl, hp⟩ := te2
    refine ⟨p, _, [.int k], rfl, hp, Nat.le_of_ble_eq_true rfl, fun c => absurd c.1 (by decide +kernel), fun _ => ?_⟩
    refine ⟨p, _, [.int k], rfl, hp, Nat.le_of_ble_eq_true rfl, fun _ => ?_, fun c => absurd ⟨rfl, rfl⟩ c⟩
    walk_at "rd"
    intro t nt
    have x3 := Ext.new (ms := []) (o := .tup [.str "num", .int k]) nt
    exact fin (.ref t) _ (x + 1) s (Exf.ext x3) (x3 _ _ ha2 (.inr fun _ z => nomatch z)) rfl (by show s = s + 0; omega) ⟨t, rfl, SqT.of upd_same⟩
  | elet k e1 e2 =>
    simp only [Env.E.hgt] at eh d8
    simp only [Env.E.size] at x60
    obtain ⟨p, v1, v2, rfl, hp, t1, t2⟩ := te2
    refine ⟨p, _, [.int k, v1, v2], rfl, hp, Nat.le_of_ble_eq_true rfl, fun c => absurd c.1 (by decide +kernel), fun _ => ?_⟩
    refine ⟨p, _, [.int k, v1, v2], rfl, hp, Nat.le_of_ble_eq_true rfl, fun c => absurd c.1 (by decide +kernel), fun _ => ?_⟩
    refine ⟨p, _, [.int k, v1, v2], rfl, hp, Nat.le_of_ble_eq_true rfl, fun _ => ?_, fun c => absurd ⟨rfl, rfl⟩ c⟩
    walk_at "rd"
    refine ⟨a, dx, _, rfl, ha2, mf_no _ _ ne_ne ne_ns, ?_⟩
    walk_at "rd"
    refine ⟨a, dx, x + 1, s, rfl, ha2, fun H3 ha3 k3 => ?_⟩
    have y3 : Exf a H2 H3 := Exf.of k3
    have q3 := y3.tkI ha2
    replace t1 := TE.tk q3 t1
    replace t2 := TE.tk q3 t2
    have hb3 := y3 b _ hb2 nba
    clear k3 q3
    walk_at "rd"
    refine ⟨a, dx, _, rfl, ha3, mf_no _ _ ne_me ne_ms, ?_⟩
    walk_at "rd"
    refine ⟨a, dx, x + 1, s + 1, v1, e1, b, kvs, S, ρ, dep + 1, rfl, ha3, t1, by omega, by omega, by omega, by omega, by omega, hb3, by omega, ok.2.2.1, kn, fun u1 H4 y4 ha4 w1 => ?_⟩
    have q4 := y4.tkI ha3
    replace t2 := TE.tk q4 t2
    have hb4 := y4 b _ hb3 nba
    walk_at "rd"
    refine ⟨a, dx, _, rfl, ha4, mf_no _ _ ne_me ne_ms, ?_⟩
    walk_at "rd"
    intro d nd
    walk_at "rd"
    have nbd : b ≠ d := ne_of_none hb4 nd
    refine ⟨b, kvs, rfl, nbd, upd_same, by rw [upd_ne nbd]; exact hb4, by omega, fun f nf => ?_⟩
    have nfd : f ≠ d := fun z => by rw [z, upd_same] at nf; cases nf
    walk_at "rd"
    refine ⟨Sum.inl k, rfl, ?_⟩
    walk_at "rd"
    refine ⟨by rw [upd_ne nfd.symm]; exact upd_same, upd_same, ?_⟩
    have x5 := dover_ext (kv := [(Sum.inl k, .int s)]) (fin := putK kvs (Sum.inl k) (.int s)) nd nf
    have hd5 : upd (upd (upd (upd (upd H4 d (.dK [])) d (.dK kvs)) f (.dK [])) f (.dK [(Sum.inl k, .int s)])) d (.dK (putK kvs (Sum.inl k) (.int s))) d = some (.dK (putK kvs (Sum.inl k) (.int s))) := upd_same
    generalize upd (upd (upd (upd (upd H4 d (.dK [])) d (.dK kvs)) f (.dK [])) f (.dK [(Sum.inl k, .int s)])) d (.dK (putK kvs (Sum.inl k) (.int s))) = H5 at x5 hd5 ⊢
    have ha5 : H5 a = some (.ins T.C_Marker dx (mf (x + 1 + e1.size) (s + 1 + e1.sites))) := x5 _ _ ha4 (.inr fun _ z => nomatch z)
    have lp := length_putK kvs (Sum.inl k) (V.int s)
    replace t2 := TE.ext x5 t2
    replace w1 := TE.ext x5 w1
    walk_at "rd"
    refine ⟨a, dx, x + 1 + e1.size, s + 1 + e1.sites, v2, e2, d, _, _, put ρ k s, dep + 1, rfl, ha5, t2, by omega, by omega, by omega, by omega, by omega, hd5, by omega, ok.2.2.2, kn.put k s, fun u2 H6 y6 ha6 w2 => ?_⟩
    replace w1 := TE.tk (y6.tkI ha5) w1
    walk_at "rd"
    intro t nt
    have x7 := Ext.new (ms := []) (o := .tup [.str "let", .int s, u1, u2]) nt
    exact fin (.ref t) _ _ _ ((((y3.trans y4).trans (Exf.ext x5)).trans y6).trans (Exf.ext x7)) (x7 _ _ ha6 (.inr fun _ z => nomatch z)) (by simp only [Env.E.size]; omega) (by simp only [Env.E.sites]; omega) ⟨t, u1, u2, rfl, SqT.of upd_same, TE.ext x7 w1, TE.ext x7 w2⟩
  | efun k e1 =>
    simp only [Env.E.hgt] at eh d8
    simp only [Env.E.size] at x60
    obtain ⟨p, v1, rfl, hp, t1⟩ := te2
    refine ⟨p, _, [.int k, v1], rfl, hp, Nat.le_of_ble_eq_true rfl, fun c => absurd c.1 (by decide +kernel), fun _ => ?_⟩
    refine ⟨p, _, [.int k, v1], rfl, hp, Nat.le_of_ble_eq_true rfl, fun c => absurd c.1 (by decide +kernel), fun _ => ?_⟩
    refine ⟨p, _, [.int k, v1], rfl, hp, Nat.le_of_ble_eq_true rfl, fun c => absurd c.1 (by decide +kernel), fun _ => ?_⟩
    refine ⟨p, _, [.int k, v1], rfl, hp, Nat.le_of_ble_eq_true rfl, fun _ => ?_, fun c => absurd ⟨rfl, rfl⟩ c⟩
    walk_at "rd"
    refine ⟨a, dx, _, rfl, ha2, mf_no _ _ ne_ne ne_ns, ?_⟩
    walk_at "rd"
    refine ⟨a, dx, x + 1, s, rfl, ha2, fun H3 ha3 k3 => ?_⟩
    have y3 : Exf a H2 H3 := Exf.of k3
    have q3 := y3.tkI ha2
    replace t1 := TE.tk q3 t1
    have hb3 := y3 b _ hb2 nba
    clear k3 q3
    walk_at "rd"
    refine ⟨a, dx, _, rfl, ha3, mf_no _ _ ne_me ne_ms, ?_⟩
    walk_at "rd"
    intro d nd
    walk_at "rd"
    have nbd : b ≠ d := ne_of_none hb3 nd
    refine ⟨b, kvs, rfl, nbd, upd_same, by rw [upd_ne nbd]; exact hb3, by omega, fun f nf => ?_⟩
    have nfd : f ≠ d := fun z => by rw [z, upd_same] at nf; cases nf
    walk_at "rd"
    refine ⟨Sum.inl k, rfl, ?_⟩
    walk_at "rd"
    refine ⟨by rw [upd_ne nfd.symm]; exact upd_same, upd_same, ?_⟩
    have x5 := dover_ext (kv := [(Sum.inl k, .int s)]) (fin := putK kvs (Sum.inl k) (.int s)) nd nf
    have hd5 : upd (upd (upd (upd (upd H3 d (.dK [])) d (.dK kvs)) f (.dK [])) f (.dK [(Sum.inl k, .int s)])) d (.dK (putK kvs (Sum.inl k) (.int s))) d = some (.dK (putK kvs (Sum.inl k) (.int s))) := upd_same
    generalize upd (upd (upd (upd (upd H3 d (.dK [])) d (.dK kvs)) f (.dK [])) f (.dK [(Sum.inl k, .int s)])) d (.dK (putK kvs (Sum.inl k) (.int s))) = H5 at x5 hd5 ⊢
    have ha5 : H5 a = some (.ins T.C_Marker dx (mf (x + 1) (s + 1))) := x5 _ _ ha3 (.inr fun _ z => nomatch z)
    have lp := length_putK kvs (Sum.inl k) (V.int s)
    replace t1 := TE.ext x5 t1
    walk_at "rd"
    refine ⟨a, dx, x + 1, s + 1, v1, e1, d, _, _, put ρ k s, dep + 1, rfl, ha5, t1, by omega, by omega, by omega, by omega, by omega, hd5, by omega, ok.2.2, kn.put k s, fun u1 H6 y6 ha6 w1 => ?_⟩
    walk_at "rd"
    intro t nt
    have x7 := Ext.new (ms := []) (o := .tup [.str "fun", .int s, u1]) nt
    exact fin (.ref t) _ _ _ (((y3.trans (Exf.ext x5)).trans y6).trans (Exf.ext x7)) (x7 _ _ ha6 (.inr fun _ z => nomatch z)) (by simp only [Env.E.size]; omega) (by simp only [Env.E.sites]; omega) ⟨t, u1, rfl, SqT.of upd_same, TE.ext x7 w1⟩
  | plus e1 e2 => exact absurd rfl hh
  | call e1 e2 => exact absurd rfl hh
  | eif e1 e2 e3 => exact absurd rfl hh
theorem ok_mark (T : Tp K w mg) : ∀ d : Nat, FnOk P w K mg base CX0 (d + 3) T.m_Marker_mark.f T.m_Marker_mark.d P_Marker_mark (spMark K T.C_Marker d)
  | 0 => (fn_never 3).imp fun vs H Q E ⟨a, dx, x, s, v, e, b, kvs, S, ρ, dep, _, _, _, h, _⟩ => by have := e.hgt_pos; omega
  | n + 1 => ok_mark_step T n (ok_mark T n)
theorem ok_marked (T : Tp K w mg) : FnOk P w K mg base CX0 12 T.marked.f T.marked.d P_marked (spMK K) := by
  have G_mark := ok_mark (P := P) (base := base) T 8
  refine T.marked.F.ok sc_marked (fun vs H Q E h => ?_) (fun cdv A outer s' H vs Q X hr hsp => ?_)
  · obtain ⟨v, e, rfl, _⟩ := h
    rfl
  obtain ⟨v, e, rfl, te, eh, es, eo, q⟩ := hsp
  refine ⟨_, (pss_one (ps_ret (pe_meth (pe_make0 T.made_Marker (ok_init T) (hr.mono (by first | decide | omega)) (by rfl) T.g_Marker T.i_Marker.b .nil pass0) T.c_Marker T.m_Marker_mark.m (G_mark) (hr.mono (by first | decide | omega)) T.m_Marker_mark.b .nil pass0 (pa_cons (pv 0) (pa_cons pe_dnewK (pa_cons pe_int pa_nil)))))), ?_⟩
  intro a dx na ndx nda
  refine ⟨a, dx, rfl, upd_same, fun H1 h1 k1 => ⟨rfl, ?_⟩⟩
  refine ⟨a, dx, _, rfl, h1, mf_no _ _ ne_me ne_ms, ?_⟩
  walk_at "rd"
  intro d nd
  have e1 : ∀ b o, H b = some o → b ≠ a ∧ H1 b = some o := fun b o h => by
    have n1 := ne_of_none h na
    have n2 := ne_of_none h ndx
    exact ⟨n1, by rw [k1 b n1, upd_ne n1, upd_ne n2]; exact h⟩
  have x2 := Ext.new (ms := []) (o := .dK []) nd
  have te1 : TE K H1 v e := TE.ext (ms := []) (fun b o h _ => (e1 b o h).2) te
  have h2 := x2 _ _ h1 (.inr fun _ z => nomatch z)
  walk_at "rd"
  refine ⟨a, dx, 0, 0, v, e, d, [], fun _ => False, fun _ => 0, 0, rfl, h2, TE.ext x2 te1, eh, Int.le_refl 0, by omega, Int.le_refl 0, by omega, upd_same, by decide, eo, fun _ z => z.elim, fun u H3 y3 h3 w => ?_⟩
  exact q u H3 (fun b o h _ => y3 b o (x2 b o (e1 b o h).2 (.inl fun z => nomatch z)) (e1 b o h).1) w
end
end Env
end
section
set_option Elab.async false
set_option linter.all false
set_option maxRecDepth 100000
set_option maxHeartbeats 4000000
namespace Env
open PySem L2
local macro_rules | `(tactic| walk_at "side") => `(tactic| first
  | assumption
  | ((try dsimp only); omega)
  | decide
  | exact ⟨by omega, by omega⟩
  | exact .inr ⟨by decide, by decide⟩
  | exact .inl ⟨by omega, by omega⟩)
local macro_rules | `(tactic| walk_at "rd1") => `(tactic| first
  | with_reducible refine Exists.intro _ (And.intro rfl ?_)
  | refine Exists.intro _ (And.intro rfl ?_)
  | refine ⟨_, _, rfl, rfl, ?_⟩
  | refine And.intro rfl ?_
  | refine ⟨_, _, _, _, rfl, rfl, SqL.of (by assumption), rfl, ?_⟩
  | refine ⟨_, _, _, _, rfl, rfl, SqL.of upd_same, rfl, ?_⟩
  | refine And.intro (szb rfl) ?_
  | refine And.intro (Or.inl (And.intro rfl (Exists.intro _ (SqL.of (by assumption))))) ?_
  | refine Or.inl (Exists.intro _ (And.intro rfl ?_))
  | refine Or.inr (Exists.intro _ (And.intro rfl ?_))
  | refine And.intro (by walk_at "side") ?_
  | refine ⟨_, _, _, _, rfl, rfl, (by assumption), rfl, ?_⟩
  | refine ⟨_, _, _, _, rfl, rfl, upd_same, rfl, ?_⟩
  | refine ⟨_, _, rfl, .inl (SqL.of (by assumption)), ?_⟩
  | refine ⟨_, _, rfl, .inl (SqL.of upd_same), ?_⟩
  | refine ⟨_, _, rfl, .inl (by assumption), ?_⟩)
local macro_rules | `(tactic| walk_at "rd") => `(tactic| repeat walk_at "rd1")
local macro_rules | `(tactic| walk_at "ds") => `(tactic| dsimp only [tNil, tCons, tC, tNoPart, tPart, tCB, tOp, tTest, tB, tCall, List.nil_append, List.cons_append, List.append_nil])
local macro_rules | `(tactic| walk_at "tup") => `(tactic| (intro t nt))

section
variable {P : Program} {w : World} {K : PySem.W.Frag} {mg : Str → Option Value} {base : Heap}
theorem ok_parts_of_step (T : Tp K w mg) (n : Nat) (G_parts_of : FnOk P w K mg base CX0 (n + 1) T.parts_of.f T.parts_of.d P_parts_of (spPO K n)) :
    FnOk P w K mg base CX0 (n + 2) T.parts_of.f T.parts_of.d P_parts_of (spPO K (n + 1)) := by
  refine T.parts_of.F.ok sc_parts_of (fun vs H Q E h => ?_) (fun cdv A outer s' H vs Q X hr hsp => ?_)
  · obtain ⟨v, e, rfl, _⟩ := h
    rfl
  obtain ⟨v, e, rfl, te, eh, es, q⟩ := hsp
  refine ⟨_, (pss_cons (ps_set (i := 1) sc_parts_of.nd rfl (Or.inl rfl) (pe_lst (pa_cons (pv 0) pa_nil)))
    (pss_cons (ps_for PassesOwn.never rfl (piT (K := K) rfl (pv 0)) (pg_name (i := 2) sc_parts_of.nd rfl (Or.inl rfl)) (pss_one (ps_if (pt_val (pe_callB (id := "isinstance") (isiK (K := K) rfl) (by rfl) T.B.b_isinstance (by decide +kernel) (pa_cons (pv 2) (pa_cons (pe_bltn (v := .ty "tuple") (u := .type "tuple") (by rfl) T.B.b_tuple (by decide +kernel) rfl) pa_nil)))) (pss_one (ps_expr (pe_bm PySem.F.plainAttrs_list PySem.F.slot_list_extend PySem.F.type_list_extend mt_extend (pv 1) (pa_cons (pe_cl T.parts_of (G_parts_of) hr (by first | decide | omega) (by rfl) (pa_cons (pv 2) pa_nil)) pa_nil)))) pss_nil)))
    (pss_one (ps_ret (pv 1))))), ?_⟩
  obtain ⟨p, vs, rfl, hp, hi⟩ := te.node
  walk_at "rd"
  intro L nL
  have x1 : Ext [] H (upd H L (.lst [.ref p])) := Ext.new nL
  have hl := hi.len
  have el := e.its_len
  walk_at "rd"
  refine ⟨⟨_, x1.seqT hp⟩, ?_⟩
  refine for_tup (K := K) (a := p) (xs := .str e.word :: vs) (fun i σ H' => ∃ (ws : List V) (o : Option V), Ext [] H H' ∧ H' L = some (.lst ws) ∧ TEs K H' ws (e.preTo (i - 1)) ∧ σ = [some (.ref p), some (.ref L), o])
    ⟨[.ref p], none, x1, upd_same, ⟨TE.ext x1 te, trivial⟩, rfl⟩ (fun i σ H' _ ⟨_, _, x, _⟩ => x.seqT hp) ?_ ?_
  · rintro i x σ H2 hx ⟨ws, o, x2, hL, ht, rfl⟩
    match i, hx with
    | 0, hx =>
      cases hx
      walk_at "rd"
      walk_at "ds"
      refine isi_str ?_
      walk_at "rd"
      exact ⟨ws, _, x2, hL, ht, rfl⟩
    | j + 1, hx =>
      have hj : vs[j]? = some x := hx
      have jl := (List.getElem?_eq_some_iff.mp hj).1
      walk_at "rd"
      rcases (hi.ext x2).at hj with ⟨m, hm, rfl⟩ | ⟨c, hc, tc⟩
      · walk_at "ds"
        refine isi_int ?_
        walk_at "rd"
        exact ⟨ws, _, x2, hL, by show TEs K H2 ws (e.preTo (j + 1)); rw [E.preTo_num hm]; exact ht, rfl⟩
      · obtain ⟨pc, xc, rfl, hpc⟩ := tc.ref
        walk_at "ds"
        refine isi_tup hpc ?_
        have cs := E.its_size hc
        walk_at "rd"
        refine ⟨_, c, rfl, tc, E.its_hgt eh (List.mem_of_getElem? hc), by omega, fun r H3 zs x3 nr hr3 tz => ?_⟩
        have hL3 := x3.lst (fun z => nomatch z) hL
        have ht3 := ht.ext x3
        have lw := ht3.len
        have lz := tz.len
        have l1 := e.preTo_len (j + 1 - 1)
        rw [c.pre_len] at lz
        refine ⟨L, r, ws, zs, rfl, rfl, hL3, hr3, Nat.le_of_lt (small1000 (by omega)), ?_⟩
        have xL : Ext [L] H3 (upd H3 L (.lst (ws ++ zs))) := Ext.put hL3 (List.mem_singleton.mpr rfl)
        refine ⟨ws ++ zs, _, (x2.trans x3).mut nL, upd_same, ?_, rfl⟩
        show TEs K _ _ (e.preTo (j + 1))
        rw [E.preTo_sub hc]
        exact (ht3.ext xL).app (tz.ext xL)
  · rintro σ H2 ⟨ws, o, x2, hL, ht, rfl⟩
    walk_at "rd"
    refine q L H2 ws x2 nL hL ?_
    have : e.preTo ((V.str e.word :: vs).length - 1) = e.pre := E.preTo_all (by rw [List.length_cons, hl]; exact Nat.le_refl _)
    rw [← this]
    exact ht
theorem ok_parts_of (T : Tp K w mg) : ∀ d : Nat, FnOk P w K mg base CX0 (d + 1) T.parts_of.f T.parts_of.d P_parts_of (spPO K d)
  | 0 => (fn_never 1).imp fun vs H Q E ⟨v, e, _, _, h, _⟩ => by cases e <;> simp [Env.E.hgt] at h
  | n + 1 => ok_parts_of_step T n (ok_parts_of T n)
end
end Env
end
section
set_option Elab.async false
set_option linter.all false
set_option maxRecDepth 100000
set_option maxHeartbeats 4000000
namespace Env
open PySem L2
local macro_rules | `(tactic| walk_at "side") => `(tactic| first
  | assumption
  | ((try dsimp only); omega)
  | decide
  | exact ⟨by omega, by omega⟩
  | exact .inr ⟨by decide, by decide⟩
  | exact .inl ⟨by omega, by omega⟩)
local macro_rules | `(tactic| walk_at "rd1") => `(tactic| first
  | with_reducible refine Exists.intro _ (And.intro rfl ?_)
  | refine Exists.intro _ (And.intro rfl ?_)
  | refine ⟨_, _, rfl, rfl, ?_⟩
  | refine And.intro rfl ?_
  | refine ⟨_, _, _, _, rfl, rfl, SqL.of (by assumption), rfl, ?_⟩
  | refine ⟨_, _, _, _, rfl, rfl, SqL.of upd_same, rfl, ?_⟩
  | refine And.intro (szb rfl) ?_
  | refine And.intro (Or.inl (And.intro rfl (Exists.intro _ (SqL.of (by assumption))))) ?_
  | refine Or.inl (Exists.intro _ (And.intro rfl ?_))
  | refine Or.inr (Exists.intro _ (And.intro rfl ?_))
  | refine And.intro (by walk_at "side") ?_
  | refine ⟨_, _, _, _, rfl, rfl, (by assumption), rfl, ?_⟩
  | refine ⟨_, _, _, _, rfl, rfl, upd_same, rfl, ?_⟩
  | refine ⟨_, _, rfl, .inl (SqL.of (by assumption)), ?_⟩
  | refine ⟨_, _, rfl, .inl (SqL.of upd_same), ?_⟩
  | refine ⟨_, _, rfl, .inl (by assumption), ?_⟩)
local macro_rules | `(tactic| walk_at "rd") => `(tactic| repeat walk_at "rd1")
local macro_rules | `(tactic| walk_at "ds") => `(tactic| dsimp only [tNil, tCons, tC, tNoPart, tPart, tCB, tOp, tTest, tB, tCall, List.nil_append, List.cons_append, List.append_nil])
local macro_rules | `(tactic| walk_at "tup") => `(tactic| (intro t nt))

section
variable {P : Program} {w : World} {K : PySem.W.Frag} {mg : Str → Option Value} {base : Heap}
def spUF (K : PySem.W.Frag) : Sp := fun vs H Q _ => ∃ (v : V) (n : Int) (b : E), vs = [.int n, v] ∧ TE K H v b ∧ b.hgt ≤ 9 ∧ b.size ≤ 60 ∧
  ∀ (p : Addr) (H' : Hp), Ext [] H H' → H p = none → H' p = some (.lst ((srt (E.low n b.pre)).map V.int)) → Q (.ref p) H'
theorem ok_used_from_outside (T : Tp K w mg) : FnOk P w K mg base CX0 11 T.used_from_outside.f T.used_from_outside.d P_used_from_outside (spUF K) := by
  refine T.used_from_outside.F.ok sc_used_from_outside (fun vs H Q E h => ?_) (fun cdv A outer s' H vs Q X hr hsp => ?_)
  · obtain ⟨v, n, b, rfl, _⟩ := h
    rfl
  obtain ⟨v, n, b, rfl, te, eh, es, q⟩ := hsp
  refine ⟨_, (pss_one (ps_ret (pe_callB (id := "sorted") (cr_sortI (w := w) rfl rfl) (by rfl) T.B.b_sorted (by decide +kernel) (pa_cons (pe_setI (own := [("part", 2)]) (g := gName 2) (by rfl) sc_used_from_outside.nd (piL (K := K) rfl (pe_cl T.parts_of (ok_parts_of T 9) hr (by first | decide | omega) (by rfl) (pa_cons (pv 1) pa_nil))) (blkOk_by (N := N_used_from_outside) (sc := defScope s_used_from_outside) (by decide +kernel)) ⟨fun _ _ _ _ _ => (pg_name (i := 2) sc_used_from_outside.nd rfl (Or.inl rfl)), fun _ _ _ _ _ => pts_one (PW.pt (pw_and (pt_cmpR op_eq (pe_ix (ixT (K := K) rfl) (pv 2) pe_int (fun _ _ => rfl)) pe_str (nomark _)) (pw_and1 (pt_cmpR op_lt (pe_ix (ixT (K := K) rfl) (pv 2) pe_int (fun _ _ => rfl)) (pv 0) (nomark _))))), fun _ _ _ _ _ => (pe_ix (ixT (K := K) rfl) (pv 2) pe_int (fun _ _ => rfl))⟩) pa_nil)))), ?_⟩
  have hpre := b.pre_len
  walk_at "rd"
  refine ⟨_, b, rfl, te, eh, es, fun L H1 ws x1 nL hL hws => ?_⟩
  have hwl := hws.len
  refine ⟨L, rfl, ⟨_, SqL.of hL⟩, fun D nD => ?_⟩
  have nLD : L ≠ D := fun z => by rw [z, nD] at hL; cases hL
  generalize b.pre = es' at hws hwl hpre q
  refine si_list (K := K) (a := L) (xs := ws) (fun i H' => ∃ c, Ext [] H1 H' ∧ H' L = some (.lst ws) ∧ H' D = some (SO w D (E.low n (es'.take i)) c) ∧ c ≤ i)
    ⟨0, Ext.new nD, by rw [upd_ne nLD]; exact hL, upd_same, Nat.le_refl _⟩ (fun i H' _ ⟨_, _, h, _⟩ => SqL.of h) ?_ ?_
  · rintro i x H' hx ⟨c, g1, g2, g3, g4⟩
    have ix := (List.getElem?_eq_some_iff.mp hx).1
    obtain ⟨e, he, t⟩ := (hws.ext g1).at hx
    obtain ⟨pe, vs, rfl, hpe, hi⟩ := t.node
    have et : es'.take (i + 1) = es'.take i ++ [e] := by rw [List.take_succ, he]; rfl
    refine ⟨rfl, ?_⟩
    walk_at "rd"
    refine ⟨pe, _, 0, _, rfl, rfl, hpe, atI_nat (j := 0) rfl, ?_⟩
    walk_at "rd"
    by_cases hn : ∃ k, e = .nam k
    · obtain ⟨k, rfl⟩ := hn
      obtain ⟨p2, ep, hpk⟩ := t
      cases ep
      refine ite2 (fun _ => ?_) (fun c => absurd wq_name_name c)
      walk_at "rd"
      refine ite2 (fun lt => ?_) (fun ge => ?_)
      · have hlt : k < n := cdec lt
        walk_at "rd"
        refine ⟨k, _, c, rfl, g3, by unfold scanBound; omega, fun c' hc' => ⟨c', g1.mut nD, by rw [upd_ne nLD]; exact g2, ?_, by omega⟩⟩
        rw [upd_same, et, E.low_app]
        show _ = some (SO w D (_ ++ if k < n then [k] else []) c')
        rw [if_pos hlt]
        rfl
      · have hge : ¬ k < n := ndec ge
        refine ⟨c, g1, g2, ?_, Nat.le_succ_of_le g4⟩
        rw [g3, et, E.low_app]
        show _ = some (SO w D (_ ++ if k < n then [k] else []) c)
        rw [if_neg hge, List.append_nil]
    · have hw : decide (V.str e.word = V.str "name") = false := by
        cases e with
        | nam k => exact absurd ⟨k, rfl⟩ hn
        | num n => exact wq_num_name
        | efun _ _ => exact wq_fun_name
        | plus _ _ => exact wq_plus_name
        | elet _ _ _ => exact wq_let_name
        | call _ _ => exact wq_call_name
        | eif _ _ _ => exact wq_if_name
      refine ite2 (fun c => absurd c (by rw [hw]; decide)) (fun _ => ?_)
      walk_at "rd"
      refine ⟨c, g1, g2, ?_, Nat.le_succ_of_le g4⟩
      rw [g3, et, E.low_app]
      have : E.low n [e] = [] := by
        cases e with
        | nam k => exact absurd ⟨k, rfl⟩ hn
        | _ => rfl
      rw [this, List.append_nil]
  · rintro H' ⟨c, g1, g2, g3, g4⟩
    rw [hwl, List.take_length] at g3
    walk_at "rd"
    refine ⟨D, _, c, rfl, g3, ?_, fun ns RL hr1 hr2 hr3 nRL => ?_⟩
    · omega
    · have ens : ns = srt (E.low n es') := rise_eq hr1 (srt_rise _) fun z => by rw [hr2, srt_mem, decide_eq_true_iff]
      subst ens
      exact q RL _ ((x1.trans g1).nw nRL) ((x1.trans g1).fresh0 nRL) upd_same
end
end Env
end
section
set_option Elab.async false
set_option linter.all false
set_option maxRecDepth 100000
set_option maxHeartbeats 4000000
namespace Env
open PySem L2
local macro_rules | `(tactic| walk_at "side") => `(tactic| first
  | assumption
  | ((try dsimp only); omega)
  | decide
  | exact ⟨by omega, by omega⟩
  | exact .inr ⟨by decide, by decide⟩
  | exact .inl ⟨by omega, by omega⟩)
local macro_rules | `(tactic| walk_at "rd1") => `(tactic| first
  | with_reducible refine Exists.intro _ (And.intro rfl ?_)
  | refine Exists.intro _ (And.intro rfl ?_)
  | refine ⟨_, _, rfl, rfl, ?_⟩
  | refine And.intro rfl ?_
  | refine ⟨_, _, _, _, rfl, rfl, SqL.of (by assumption), rfl, ?_⟩
  | refine ⟨_, _, _, _, rfl, rfl, SqL.of upd_same, rfl, ?_⟩
  | refine And.intro (szb rfl) ?_
  | refine And.intro (Or.inl (And.intro rfl (Exists.intro _ (SqL.of (by assumption))))) ?_
  | refine Or.inl (Exists.intro _ (And.intro rfl ?_))
  | refine Or.inr (Exists.intro _ (And.intro rfl ?_))
  | refine And.intro (by walk_at "side") ?_
  | refine ⟨_, _, _, _, rfl, rfl, (by assumption), rfl, ?_⟩
  | refine ⟨_, _, _, _, rfl, rfl, upd_same, rfl, ?_⟩
  | refine ⟨_, _, rfl, .inl (SqL.of (by assumption)), ?_⟩
  | refine ⟨_, _, rfl, .inl (SqL.of upd_same), ?_⟩
  | refine ⟨_, _, rfl, .inl (by assumption), ?_⟩)
local macro_rules | `(tactic| walk_at "rd") => `(tactic| repeat walk_at "rd1")
local macro_rules | `(tactic| walk_at "ds") => `(tactic| dsimp only [tNil, tCons, tC, tNoPart, tPart, tCB, tOp, tTest, tB, tCall, List.nil_append, List.cons_append, List.append_nil])
local macro_rules | `(tactic| walk_at "tup") => `(tactic| (intro t nt))

section
variable {P : Program} {w : World} {K : PySem.W.Frag} {mg : Str → Option Value} {base : Heap}
def spLO (K : PySem.W.Frag) (d : Nat) : Sp := fun vs H Q _ => ∃ (v : V) (e : E), vs = [v] ∧ TE K H v e ∧ e.hgt ≤ d ∧ e.size ≤ 60 ∧
  ∀ (p : Addr) (H' : Hp), Ext [] H H' → H p = none → H' p = some (.lst (e.lets.map V.int)) → Q (.ref p) H'
theorem ok_lets_of_step (T : Tp K w mg) (n : Nat) (G_lets_of : FnOk P w K mg base CX0 (n + 1) T.lets_of.f T.lets_of.d P_lets_of (spLO K n)) :
    FnOk P w K mg base CX0 (n + 2) T.lets_of.f T.lets_of.d P_lets_of (spLO K (n + 1)) := by
  refine T.lets_of.F.ok sc_lets_of (fun vs H Q E h => ?_) (fun cdv A outer s' H vs Q X hr hsp => ?_)
  · obtain ⟨v, e, rfl, _⟩ := h
    rfl
  obtain ⟨v, e, rfl, te, eh, es, q⟩ := hsp
  refine ⟨_, (pss_cons (ps_if (pt_cmpR op_eq (pe_ix (ixT (K := K) rfl) (pv 0) pe_int (fun _ _ => rfl)) pe_str (nomark _)) (pss_one (ps_ret (pe_lst pa_nil))) pss_nil)
    (pss_cons (ps_set (i := 1) sc_lets_of.nd rfl (Or.inl rfl) (pe_ifExp (pt_cmpR op_eq (pe_ix (ixT (K := K) rfl) (pv 0) pe_int (fun _ _ => rfl)) pe_str (nomark _)) (pe_lst (pa_cons (pe_ix (ixT (K := K) rfl) (pv 0) pe_int (fun _ _ => rfl)) pa_nil)) (pe_lst pa_nil)))
    (pss_cons (ps_for PassesOwn.never rfl (piT (K := K) rfl (pv 0)) (pg_name (i := 2) sc_lets_of.nd rfl (Or.inl rfl)) (pss_one (ps_if (pt_val (pe_callB (id := "isinstance") (isiK (K := K) rfl) (by rfl) T.B.b_isinstance (by decide +kernel) (pa_cons (pv 2) (pa_cons (pe_bltn (v := .ty "tuple") (u := .type "tuple") (by rfl) T.B.b_tuple (by decide +kernel) rfl) pa_nil)))) (pss_one (ps_expr (pe_bm PySem.F.plainAttrs_list PySem.F.slot_list_extend PySem.F.type_list_extend mt_extend (pv 1) (pa_cons (pe_cl T.lets_of (G_lets_of) hr (by first | decide | omega) (by rfl) (pa_cons (pv 2) pa_nil)) pa_nil)))) pss_nil)))
    (pss_one (ps_ret (pv 1)))))), ?_⟩
  obtain ⟨p, vs, rfl, hp, hi⟩ := te.node
  have hl := hi.len
  have el := e.its_len
  walk_at "rd"
  refine ⟨p, _, 0, _, rfl, rfl, hp, atI_nat (j := 0) rfl, ?_⟩
  walk_at "rd"
  by_cases hf : e.isFun = true
  · have hw : decide (V.str e.word = V.str "fun") = true := by
      cases e <;> simp [E.isFun] at hf
      exact wq_fun_fun
    refine ite2 (fun _ => ?_) (fun c => absurd hw c)
    walk_at "rd"
    intro L nL
    refine q L _ (Ext.new nL) nL ?_
    rw [upd_same]
    cases e <;> simp [E.isFun] at hf
    rfl
  have hf' : e.isFun = false := by simpa using hf
  have hw : decide (V.str e.word = V.str "fun") = false := by
    cases e with
    | efun n b => exact absurd rfl hf
    | num n => exact wq_num_fun
    | nam _ => exact wq_name_fun
    | plus _ _ => exact wq_plus_fun
    | elet _ _ _ => exact wq_let_fun
    | call _ _ => exact wq_call_fun
    | eif _ _ _ => exact wq_if_fun
  refine ite2 (fun c => absurd c (by rw [hw]; decide)) (fun _ => ?_)
  dsimp only [tNext]
  refine seq_cut (fun σ' H' => ∃ L : Addr, Ext [] H H' ∧ H L = none ∧ H' L = some (.lst (e.letHd.map V.int)) ∧ σ' = [some (.ref p), some (.ref L), none]) (fun rest => ?main) ?rest
  case main =>
    walk_at "rd"
    refine ⟨p, _, 0, _, rfl, rfl, hp, atI_nat (j := 0) rfl, ?_⟩
    walk_at "rd"
    by_cases hl2 : ∃ k a b, e = .elet k a b
    · obtain ⟨k, a, b, rfl⟩ := hl2
      obtain ⟨p2, x, y, ep, hp2, ta, tb⟩ := te
      cases ep
      refine ite2 (fun _ => ?_) (fun c => absurd wq_let_let c)
      walk_at "rd"
      intro L nL
      exact rest _ _ ⟨L, Ext.new nL, nL, upd_same, rfl⟩
    · have hw2 : decide (V.str e.word = V.str "let") = false := by
        cases e with
        | elet k a b => exact absurd ⟨k, a, b, rfl⟩ hl2
        | num n => exact wq_num_let
        | nam _ => exact wq_name_let
        | plus _ _ => exact wq_plus_let
        | efun _ _ => exact wq_fun_let
        | call _ _ => exact wq_call_let
        | eif _ _ _ => exact wq_if_let
      refine ite2 (fun c => absurd c (by rw [hw2]; decide)) (fun _ => ?_)
      walk_at "rd"
      intro L nL
      refine rest _ _ ⟨L, Ext.new nL, nL, ?_, rfl⟩
      rw [upd_same]
      cases e with
      | elet k a b => exact absurd ⟨k, a, b, rfl⟩ hl2
      | _ => rfl
  rintro σ' H1 ⟨L, x1, nL, hL, rfl⟩
  clear hw
  walk_at "rd"
  refine ⟨⟨_, x1.seqT hp⟩, ?_⟩
  refine for_tup (K := K) (a := p) (xs := .str e.word :: vs) (fun i σ H' => ∃ (o : Option V), Ext [] H H' ∧ H' L = some (.lst ((e.letsTo (i - 1)).map V.int)) ∧ σ = [some (.ref p), some (.ref L), o])
    ⟨none, x1, (by show H1 L = some (.lst ((e.letHd ++ []).map V.int)); rw [List.append_nil]; exact hL), rfl⟩ (fun i σ H' _ ⟨_, x, _⟩ => x.seqT hp) ?_ ?_
  · rintro i x σ H2 hx ⟨o, x2, hL, rfl⟩
    match i, hx with
    | 0, hx =>
      cases hx
      walk_at "rd"
      walk_at "ds"
      refine isi_str ?_
      walk_at "rd"
      exact ⟨_, x2, hL, rfl⟩
    | j + 1, hx =>
      have hj : vs[j]? = some x := hx
      have jl := (List.getElem?_eq_some_iff.mp hj).1
      walk_at "rd"
      rcases (hi.ext x2).at hj with ⟨m, hm, rfl⟩ | ⟨c, hc, tc⟩
      · walk_at "ds"
        refine isi_int ?_
        walk_at "rd"
        exact ⟨_, x2, by show H2 L = some (.lst ((e.letsTo (j + 1)).map V.int)); rw [E.letsTo_num hm]; exact hL, rfl⟩
      · obtain ⟨pc, xc, rfl, hpc⟩ := tc.ref
        walk_at "ds"
        refine isi_tup hpc ?_
        have cs := E.its_size hc
        walk_at "rd"
        refine ⟨_, c, rfl, tc, E.its_hgt eh (List.mem_of_getElem? hc), by omega, fun r H3 x3 nr hr3 => ?_⟩
        have hL3 := x3.lst (fun z => nomatch z) hL
        have l1 := E.letsTo_len hf' (j + 1 - 1)
        have l2 := c.lets_len
        refine ⟨L, r, _, _, rfl, rfl, hL3, hr3, Nat.le_of_lt (small1000 (by rw [List.length_map, List.length_map]; omega)), ?_⟩
        refine ⟨_, (x2.trans x3).mut nL, ?_, rfl⟩
        show upd H3 L _ L = some (.lst ((e.letsTo (j + 1)).map V.int))
        rw [E.letsTo_sub hc, List.map_append, upd_same]
        rfl
  · rintro σ H2 ⟨o, x2, hL, rfl⟩
    walk_at "rd"
    refine q L H2 x2 nL ?_
    have : e.letsTo ((V.str e.word :: vs).length - 1) = e.lets := E.letsTo_all hf' (by rw [List.length_cons, hl]; exact Nat.le_refl _)
    rw [← this]
    exact hL
theorem ok_lets_of (T : Tp K w mg) : ∀ d : Nat, FnOk P w K mg base CX0 (d + 1) T.lets_of.f T.lets_of.d P_lets_of (spLO K d)
  | 0 => (fn_never 1).imp fun vs H Q E ⟨v, e, _, _, h, _⟩ => by cases e <;> simp [Env.E.hgt] at h
  | n + 1 => ok_lets_of_step T n (ok_lets_of T n)
end
end Env
end
section
set_option Elab.async false
set_option linter.all false
set_option maxRecDepth 100000
set_option maxHeartbeats 4000000
namespace Env
open PySem L2
local macro_rules | `(tactic| walk_at "side") => `(tactic| first
  | assumption
  | ((try dsimp only); omega)
  | decide
  | exact ⟨by omega, by omega⟩
  | exact .inr ⟨by decide, by decide⟩
  | exact .inl ⟨by omega, by omega⟩)
local macro_rules | `(tactic| walk_at "rd1") => `(tactic| first
  | with_reducible refine Exists.intro _ (And.intro rfl ?_)
  | refine Exists.intro _ (And.intro rfl ?_)
  | refine ⟨_, _, rfl, rfl, ?_⟩
  | refine And.intro rfl ?_
  | refine ⟨_, _, _, _, rfl, rfl, SqL.of (by assumption), rfl, ?_⟩
  | refine ⟨_, _, _, _, rfl, rfl, SqL.of upd_same, rfl, ?_⟩
  | refine And.intro (szb rfl) ?_
  | refine And.intro (Or.inl (And.intro rfl (Exists.intro _ (SqL.of (by assumption))))) ?_
  | refine Or.inl (Exists.intro _ (And.intro rfl ?_))
  | refine Or.inr (Exists.intro _ (And.intro rfl ?_))
  | refine And.intro (by walk_at "side") ?_
  | refine ⟨_, _, _, _, rfl, rfl, (by assumption), rfl, ?_⟩
  | refine ⟨_, _, _, _, rfl, rfl, upd_same, rfl, ?_⟩
  | refine ⟨_, _, rfl, .inl (SqL.of (by assumption)), ?_⟩
  | refine ⟨_, _, rfl, .inl (SqL.of upd_same), ?_⟩
  | refine ⟨_, _, rfl, .inl (by assumption), ?_⟩)
local macro_rules | `(tactic| walk_at "rd") => `(tactic| repeat walk_at "rd1")
local macro_rules | `(tactic| walk_at "ds") => `(tactic| dsimp only [tNil, tCons, tC, tNoPart, tPart, tCB, tOp, tTest, tB, tCall, List.nil_append, List.cons_append, List.append_nil])
local macro_rules | `(tactic| walk_at "tup") => `(tactic| (intro t nt))

section
variable {P : Program} {w : World} {K : PySem.W.Frag} {mg : Str → Option Value} {base : Heap}
def spLayI (K : PySem.W.Frag) (C : Addr) : Sp := fun vs H Q _ => ∃ (p dx : Addr) (s : Option Int) (v : V) (b : E), vs = [.ref p, oV s, v] ∧ H p = some (.ins C dx []) ∧ TE K H v b ∧ b.hgt ≤ 9 ∧ b.size ≤ 60 ∧
  ∀ (H' : Hp) (ul sl hl : Addr), Exf p H H' → H ul = none → H' p = some (.ins C dx (layF s v ul sl hl)) → H' ul = some (.lst ((mkLay s b).used.map V.int)) → H' sl = some (.lst ((mkLay s b).sites.map V.int)) → H' hl = some (.lst ((mkLay s b).housed.map V.int)) → Q .non H'
theorem ok_Layout___init__ (T : Tp K w mg) : FnOk P w K mg base CX0 12 T.i_Layout.f T.i_Layout.d P_Layout___init__ (spLayI K T.C_Layout) := by
  refine T.i_Layout.F.ok sc_Layout___init__ (fun vs H Q E h => ?_) (fun cdv A outer s' H vs Q X hr hsp => ?_)
  · obtain ⟨p, dx, s, v, b, rfl, _⟩ := h
    rfl
  obtain ⟨p, dx, s, v, b, rfl, hp, te, bh, bs, q⟩ := hsp
  refine ⟨_, (pss_cons (ps_set (i := 3) sc_Layout___init__.nd rfl (Or.inr rfl) (pe_lc (own := [("part", 4)]) (g := gName 4) (by rfl) sc_Layout___init__.nd (piL (K := K) rfl (pe_cl T.parts_of (ok_parts_of T 9) hr (by first | decide | omega) (by rfl) (pa_cons (pv 2) pa_nil))) (blkOk_by (N := N_Layout___init__) (sc := defScope s_Layout___init__) (by decide +kernel)) (fun _ _ _ _ _ => (pg_name (i := 4) sc_Layout___init__.nd rfl (Or.inl rfl))) (fun _ _ _ _ _ => pts_one (pt_cmpR op_eq (pe_ix (ixT (K := K) rfl) (pv 4) pe_int (fun _ _ => rfl)) pe_str (nomark _))) (fun _ _ _ _ _ => (pe_cl T.used_from_outside (ok_used_from_outside T) hr (by first | decide | omega) (by rfl) (pa_cons (pe_ix (ixT (K := K) rfl) (pv 4) pe_int (fun _ _ => rfl)) (pa_cons (pe_ix (ixT (K := K) rfl) (pv 4) pe_int (fun _ _ => rfl)) pa_nil))))))
    (pss_cons (ps_fld (pv 0) (pv 1) rfl)
    (pss_cons (ps_fld (pv 0) (pv 2) rfl)
    (pss_cons (ps_fld (pv 0) (pe_lst pa_nil) rfl)
    (pss_cons (ps_fld (pv 0) (pe_cl T.lets_of (ok_lets_of T 9) hr (by first | decide | omega) (by rfl) (pa_cons (pv 2) pa_nil)) rfl)
    (pss_cons (ps_if (pt_cmpR op_notN (pv 1) pe_non (nomark _)) (pss_cons (ps_fld (pv 0) (pe_cl T.used_from_outside (ok_used_from_outside T) hr (by first | decide | omega) (by rfl) (pa_cons (pv 1) (pa_cons (pv 2) pa_nil))) rfl)
    (pss_one (ps_fld (pv 0) (pe_lst (pa_cons (pv 1) (pa_starK (K := K) rfl (pe_fldK (K := K) rfl (pv 0) rfl) pa_nil))) rfl))) pss_nil)
    (pss_one (ps_fld (pv 0) (pe_lc (own := [("own", 5)]) (g := gName 5) (by rfl) sc_Layout___init__.nd (piL (K := K) rfl (pe_fldK (K := K) rfl (pv 0) rfl)) (blkOk_by (N := N_Layout___init__) (sc := defScope s_Layout___init__) (by decide +kernel)) (fun _ _ _ _ _ => (pg_name (i := 5) sc_Layout___init__.nd rfl (Or.inr rfl))) (fun _ _ _ _ _ => pts_one (pt_val (pe_callB (id := "any") (anyK (K := K) rfl rfl) (by rfl) T.B.b_any (by decide +kernel) (pa_cons (pe_lc (own := [("used", 6)]) (g := gName 6) (tt := tYes) (by rfl) sc_Layout___init__.nd (piL (K := K) rfl (pv 3)) (blkOk_in (N := N_Layout___init__) (sc := defScope s_Layout___init__) rfl (by decide +kernel)) (fun _ _ _ _ _ => (pg_name (i := 6) sc_Layout___init__.nd rfl (Or.inl rfl))) (fun _ _ _ _ _ => pts_nil) (fun _ _ _ _ _ => (pe_cmpR (inS (K := K) rfl) (pv 5) (pv 6) (by rfl)))) pa_nil)))) (fun _ _ _ _ _ => (pv 5))) rfl)))))))), ?_⟩
  have hpre := b.pre_len
  have hpsz : ∀ c ∈ b.pre, c.hgt ≤ 9 ∧ c.size ≤ 60 := fun c hc => by have := b.pre_in c hc; omega
  refine seq_cut (fun σ' H' => ∃ (I : Addr) (vs : List V), Ext [] H H' ∧ H I = none ∧ H' I = some (.lst vs) ∧ LLs H H' vs b.inner ∧ σ' = [some (.ref p), some (oV s), some v, some (.ref I), none, none, none]) (fun rest => ?main) ?rest
  case main =>
    walk_at "rd"
    refine ⟨v, b, rfl, te, bh, bs, fun L H2 ws x2 nL hL hws => ?_⟩
    have hwl := hws.len
    refine ⟨L, rfl, ⟨_, SqL.of hL⟩, fun D nD => ?_⟩
    have nLD : L ≠ D := fun z => by rw [z, nD] at hL; cases hL
    have nD0 : H D = none := x2.fresh0 nD
    have einn : b.inner = (E.funs b.pre).map (·.2) := rfl
    rw [einn] at rest
    generalize b.pre = ps at hws hwl hpre hpsz rest
    refine lc_list (K := K) (a := L) (xs := ws) (fun i H' => ∃ acc, Ext [] H2 H' ∧ H' L = some (.lst ws) ∧ H' D = some (.lst acc) ∧ LLs (withD H D) H' acc ((E.funs (ps.take i)).map (·.2)) ∧ acc.length ≤ i)
      ⟨[], Ext.new nD, by rw [upd_ne nLD]; exact hL, upd_same, trivial, Nat.le_refl _⟩ (fun i H' _ ⟨_, _, h, _⟩ => SqL.of h) ?_ ?_
    · rintro i x H3 hx ⟨acc, g1, g2, g3, g4, g5⟩
      have ix := (List.getElem?_eq_some_iff.mp hx).1
      obtain ⟨c, hc, tc⟩ := (hws.ext g1).at hx
      obtain ⟨pe, vs, rfl, hpe, hi⟩ := tc.node
      have hcs := hpsz c (List.mem_of_getElem? hc)
      have et : ps.take (i + 1) = ps.take i ++ [c] := by rw [List.take_succ, hc]; rfl
      refine ⟨rfl, ?_⟩
      walk_at "rd"
      refine ⟨pe, _, 0, _, rfl, rfl, hpe, atI_nat (j := 0) rfl, ?_⟩
      walk_at "rd"
      by_cases hf : ∃ n b, c = .efun n b
      · obtain ⟨n, c, rfl⟩ := hf
        refine ite2 (fun _ => ?_) (fun c => absurd wq_fun_fun c)
        obtain ⟨p2, y, ep, hpf, tb⟩ := id tc
        cases ep
        have hcs2 : c.hgt ≤ 9 ∧ c.size ≤ 60 := by simp only [Env.E.hgt, Env.E.size] at hcs; omega
        walk_at "rd"
        refine ⟨_, n, c, rfl, tb, hcs2.1, hcs2.2, fun l H4 x4 nl hl => ?_⟩
        have hD4 := x4.lst (fun z => nomatch z) g3
        have nl0 : H l = none := (x2.trans g1).fresh0 nl
        have nlD : l ≠ D := fun z => by rw [z, g3] at nl; cases nl
        refine ⟨acc, hD4, small1000 (by omega), acc ++ [.ref l], (g1.trans x4).mut (x2.fresh0 nD |> fun _ => nD), by rw [upd_ne nLD]; exact x4.lst (fun z => nomatch z) g2, upd_same, ?_, by rw [List.length_append]; exact Nat.succ_le_succ g5⟩
        rw [et, E.funs_app, List.map_append]
        exact ((g4.ext x4).put (if_pos rfl)).snoc (by unfold withD; rw [if_neg nlD]; exact nl0) (by rw [upd_ne nlD]; exact hl)
      · have hw : decide (V.str c.word = V.str "fun") = false := by
          cases c with
          | efun n b => exact absurd ⟨n, b, rfl⟩ hf
          | num n => exact wq_num_fun
          | nam _ => exact wq_name_fun
          | plus _ _ => exact wq_plus_fun
          | elet _ _ _ => exact wq_let_fun
          | call _ _ => exact wq_call_fun
          | eif _ _ _ => exact wq_if_fun
        refine ite2 (fun c => absurd c (by rw [hw]; decide)) (fun _ => ?_)
        refine ⟨acc, g1, g2, g3, ?_, Nat.le_succ_of_le g5⟩
        rw [et, E.funs_app]
        have : E.funs [c] = [] := by
          cases c with
          | efun n b => exact absurd ⟨n, b, rfl⟩ hf
          | _ => rfl
        rw [this, List.append_nil]
        exact g4
    · rintro H3 ⟨acc, g1, g2, g3, g4, g5⟩
      rw [hwl, List.take_length] at g4
      refine rest _ _ ⟨D, acc, x2.trans g1, nD0, g3, g4.anew fun l _ _ h => ?_, rfl⟩
      unfold withD at h
      by_cases e : l = D
      · rw [if_pos e] at h; cases h
      · rw [if_neg e] at h; exact h
  rintro σ' H1 ⟨I, vs, x1, nI, hI, hvs, rfl⟩
  have nIp : I ≠ p := fun z => by rw [z, hp] at nI; cases nI
  have hp1 : H1 p = some (.ins T.C_Layout dx []) := x1 _ _ hp (.inl fun z => nomatch z)
  walk_at "rd"
  refine fld_at hp1 T.c_Layout T.n_Layout_site (Nat.le_of_ble_eq_true rfl) (fs' := [("site", oV s)]) rfl fun H2 hp2 z2 => ?_
  have y2 := (Exf.ext x1).trans z2
  have hI2 := z2 I _ hI nIp
  have hv2 := hvs.exf z2 hp
  clear hvs hI z2 hp1 x1 H1
  walk_at "rd"
  refine fld_at hp2 T.c_Layout T.n_Layout_body (Nat.le_of_ble_eq_true rfl) (fs' := [("site", oV s), ("body", v)]) rfl fun H3 hp3 z3 => ?_
  have y3 := y2.trans z3
  have hI3 := z3 I _ hI2 nIp
  have hv3 := hv2.exf z3 hp
  clear hv2 hI2 z3 hp2 y2 H2
  walk_at "rd"
  intro U nU
  have nUp : U ≠ p := fun z => by rw [z, hp3] at nU; cases nU
  have x4 : Ext [] H3 (upd H3 U (.lst [])) := Ext.new nU
  have hU4 : upd H3 U (.lst []) U = some (.lst []) := upd_same
  have hp4 := x4 _ _ hp3 (.inl fun z => nomatch z)
  have nU0 : H U = none := y3.fresh nU nUp
  generalize upd H3 U (.lst []) = H4 at x4 hU4 hp4 ⊢
  walk_at "rd"
  refine fld_at hp4 T.c_Layout T.n_Layout_used (Nat.le_of_ble_eq_true rfl) (fs' := [("site", oV s), ("body", v), ("used", .ref U)]) rfl fun H5 hp5 z5 => ?_
  have z35 := (Exf.ext x4).trans z5
  have y5 := y3.trans z35
  have hU5 := z5 U _ hU4 nUp
  have hI5 := z35 I _ hI3 nIp
  have hv5 := hv3.exf z35 hp
  clear z35 z5 hp4 hU4 x4 H4 hv3 hI3 y3 hp3 nU H3
  walk_at "rd"
  refine ⟨v, b, rfl, TE.tk (y5.tkI hp) te, bh, bs, fun S H6 x6 nS hS => ?_⟩
  have nSp : S ≠ p := fun z => by rw [z, hp5] at nS; cases nS
  have hp6 := x6 _ _ hp5 (.inl fun z => nomatch z)
  have nS0 : H S = none := y5.fresh nS nSp
  walk_at "rd"
  refine fld_at hp6 T.c_Layout T.n_Layout_sites (Nat.le_of_ble_eq_true rfl) (fs' := [("site", oV s), ("body", v), ("used", .ref U), ("sites", .ref S)]) rfl fun H7 hp7 z7 => ?_
  have z57 := (Exf.ext x6).trans z7
  have y7 := y5.trans z57
  have hS7 := z7 S _ hS nSp
  have hU7 := z57 U _ hU5 nUp
  have hI7 := z57 I _ hI5 nIp
  have hv7 := hv5.exf z57 hp
  clear z57 z7 hp6 hS nS x6 hv5 hI5 hU5 y5 hp5 H5 H6
  dsimp only
  refine seq_cut (fun σ' H' => ∃ U S : Addr, Exf p H H' ∧ H U = none ∧ H' p = some (.ins T.C_Layout dx [("site", oV s), ("body", v), ("used", .ref U), ("sites", .ref S)]) ∧ H' U = some (.lst ((usedBy s b).map V.int)) ∧ H' S = some (.lst ((sitesBy s b).map V.int)) ∧ H' I = some (.lst vs) ∧ LLs H H' vs b.inner ∧ H S = none ∧ σ' = [some (.ref p), some (oV s), some v, some (.ref I), none, none, none]) (fun rest => ?main2) ?rest2
  case main2 =>
    walk_at "rd"
    cases s with
    | none =>
      refine ite2 (fun c => absurd c (by decide)) (fun _ => ?_)
      exact rest _ _ ⟨U, S, y7, nU0, hp7, hU7, hS7, hI7, hv7, nS0, rfl⟩
    | some n =>
      refine ite2 (fun _ => ?_) (fun c => absurd (show (!decide (V.int n = V.non)) = true from by rw [decide_eq_false (fun z => nomatch z)]; rfl) c)
      walk_at "rd"
      refine ⟨v, n, b, rfl, TE.tk (y7.tkI hp) te, bh, bs, fun U2 H8 x8 nU2 hU8 => ?_⟩
      have hp8 := x8 _ _ hp7 (.inl fun z => nomatch z)
      have nU2p : U2 ≠ p := fun z => by rw [z, hp7] at nU2; cases nU2
      have nU20 : H U2 = none := y7.fresh nU2 nU2p
      walk_at "rd"
      refine fld_at hp8 T.c_Layout T.n_Layout_used (Nat.le_of_ble_eq_true rfl) (fs' := [("site", oV (some n)), ("body", v), ("used", .ref U2), ("sites", .ref S)]) rfl fun H9 hp9 z9 => ?_
      have z79 := (Exf.ext x8).trans z9
      have y9 := y7.trans z79
      have hU9 := z9 U2 _ hU8 nU2p
      have hS9 := z79 S _ hS7 nSp
      have hI9 := z79 I _ hI7 nIp
      have hv9 := hv7.exf z79 hp
      have bl := b.lets_len
      walk_at "rd"
      refine ⟨_, _, _, _, _, rfl, hp9, T.c_Layout, T.n_Layout_sites, rfl, ?_⟩
      refine ⟨S, _, rfl, .inr (SqL.of hS9), ?_⟩
      walk_at "ds"
      rw [List.append_nil]
      refine ⟨Nat.le_of_lt (small1000 (by rw [List.length_cons, List.length_map]; omega)), fun S2 nS2 => ?_⟩
      have nS2p : S2 ≠ p := fun z => by rw [z, hp9] at nS2; cases nS2
      have nS20 : H S2 = none := y9.fresh nS2 nS2p
      have xA := Ext.new (ms := []) (o := .lst (oV (some n) :: b.lets.map V.int)) nS2
      have hSA : upd H9 S2 (.lst (oV (some n) :: b.lets.map V.int)) S2 = some (.lst ((n :: b.lets).map V.int)) := upd_same
      have hpA := xA _ _ hp9 (.inl fun z => nomatch z)
      generalize upd H9 S2 (.lst (oV (some n) :: b.lets.map V.int)) = HA at xA hSA hpA ⊢
      walk_at "rd"
      refine ⟨p, T.C_Layout, dx, _, rfl, hpA, T.c_Layout, T.n_Layout_sites, Nat.le_of_ble_eq_true rfl, ?_⟩
      have zB : Exf p HA (upd HA p (.ins T.C_Layout dx [("site", oV (some n)), ("body", v), ("used", .ref U2), ("sites", .ref S2)])) := Exf.of fun b nb => upd_ne nb
      have z9B := (Exf.ext xA).trans zB
      exact rest _ (upd HA p (.ins T.C_Layout dx [("site", oV (some n)), ("body", v), ("used", .ref U2), ("sites", .ref S2)])) ⟨U2, S2, y9.trans z9B, nU20, upd_same, z9B U2 _ hU9 nU2p, zB S2 _ hSA nS2p, z9B I _ hI9 nIp, hv9.exf z9B hp, nS20, rfl⟩
  clear hv7 hI7 hU7 hS7 hp7 y7 nS0 nU0 nSp nUp
  rintro σ' H6 ⟨U2, S2, y6, nU2, hp6, hU6, hS6, hI6, hv6, nS2, rfl⟩
  have nUp : U2 ≠ p := fun z => by rw [z, hp] at nU2; cases nU2
  have nSp : S2 ≠ p := fun z => by rw [z, hp] at nS2; cases nS2
  have bsl : (sitesBy s b).length ≤ 61 := by
    have := b.lets_len
    cases s with
    | none => show b.lets.length ≤ 61; omega
    | some n => show (n :: b.lets).length ≤ 61; rw [List.length_cons]; omega
  have bil : b.inner.length ≤ 60 := by
    unfold E.inner
    rw [List.length_map, ← laysOf_funs, List.length_map]
    have : ∀ l : List E, (laysOf l).length ≤ l.length := fun l => by
      induction l with
      | nil => exact Nat.le_refl 0
      | cons e l ih => cases e <;> simp only [laysOf, List.length_cons] <;> omega
    have := this b.pre
    omega
  have vl := hv6.len
  walk_at "rd"
  refine ⟨_, _, _, _, _, rfl, hp6, T.c_Layout, T.n_Layout_sites, rfl, ?_⟩
  refine ⟨S2, rfl, ⟨_, SqL.of hS6⟩, fun D nD => ?_⟩
  have nDp : D ≠ p := fun z => by rw [z, hp6] at nD; cases nD
  have nD0 : H D = none := y6.fresh nD nDp
  have nDS : S2 ≠ D := fun z => by rw [z, nD] at hS6; cases hS6
  refine lc_list (K := K) (a := S2) (xs := (sitesBy s b).map V.int) (fun i H' => Ext [] H6 H' ∧ H' S2 = some (.lst ((sitesBy s b).map V.int)) ∧ H' D = some (.lst ((((sitesBy s b).take i).filter fun k => b.inner.any fun u => u.contains k).map V.int)))
    ⟨Ext.new nD, by rw [upd_ne nDS]; exact hS6, upd_same⟩ (fun i H' _ ⟨_, h, _⟩ => SqL.of h) ?_ ?_
  · rintro i x H' hx ⟨g1, g2, g3⟩
    obtain ⟨k, hk, rfl⟩ : ∃ k, (sitesBy s b)[i]? = some k ∧ x = V.int k := by
      rw [List.getElem?_map] at hx
      obtain ⟨k, hk, e⟩ := Option.map_eq_some_iff.mp hx
      exact ⟨k, hk, e.symm⟩
    have et : (sitesBy s b).take (i + 1) = (sitesBy s b).take i ++ [k] := by rw [List.take_succ, hk]; rfl
    have ix := (List.getElem?_eq_some_iff.mp hk).1
    refine ⟨rfl, ?_⟩
    walk_at "rd"
    have hI' : H' I = some (.lst vs) := g1.lst (fun z => nomatch z) hI6
    refine ⟨⟨_, SqL.of hI'⟩, fun D2 nD2 => ?_⟩
    have nID : I ≠ D2 := fun z => by rw [z, nD2] at hI'; cases hI'
    refine lc_list (K := K) (a := I) (xs := vs) (fun j H2 => Ext [] H' H2 ∧ H2 I = some (.lst vs) ∧ H2 D2 = some (.lst (((b.inner.take j).map fun u => u.contains k).map V.bl)))
      ⟨Ext.new nD2, by rw [upd_ne nID]; exact hI', upd_same⟩ (fun j H2 _ ⟨_, h, _⟩ => SqL.of h) ?_ ?_
    · rintro j x H2 hj ⟨f1, f2, f3⟩
      obtain ⟨u, l, hu, rfl, hl0, hl⟩ := ((hv6.ext g1).ext f1).at hj
      have jx := (List.getElem?_eq_some_iff.mp hj).1
      refine ⟨rfl, ?_⟩
      walk_at "rd"
      refine ⟨flat_ints u, ?_⟩
      rw [if_neg (by decide), inV_int]
      refine ⟨_, f3, small1000 (by rw [List.length_map, List.length_map, List.length_take]; omega), f1.mut nD2, by rw [upd_ne nID]; exact f2, ?_⟩
      rw [upd_same, List.take_succ, hu]
      simp only [List.map_append]
      rfl
    · rintro H2 ⟨f1, f2, f3⟩
      rw [vl, List.take_length] at f3
      walk_at "rd"
      refine ⟨D2, _, rfl, SqL.of f3, ?_⟩
      have e : (b.inner.map fun u => u.contains k).any id = b.inner.any fun u => u.contains k := by rw [List.any_map]; rfl
      rw [e]
      walk_at "rd"
      have g3' := f1.lst (fun z => nomatch z) g3
      refine ite2 (fun c => ?_) (fun c => ?_)
      · have c' : (b.inner.any fun u => u.contains k) = true := c
        walk_at "rd"
        refine ⟨_, g3', small1000 ?_, (g1.trans f1).mut nD, by rw [upd_ne nDS]; exact f1.lst (fun z => nomatch z) g2, ?_⟩
        · rw [List.length_map]
          have := List.length_filter_le (fun k => b.inner.any fun u => u.contains k) ((sitesBy s b).take i)
          rw [List.length_take] at this
          omega
        · rw [upd_same, et, List.filter_append, List.map_append]
          rw [show List.filter (fun k => b.inner.any fun u => u.contains k) [k] = [k] from by rw [List.filter_cons, if_pos c']; rfl]
          rfl
      · have c' : ¬ (b.inner.any fun u => u.contains k) = true := c
        refine ⟨g1.trans f1, f1.lst (fun z => nomatch z) g2, ?_⟩
        rw [g3', et, List.filter_append]
        rw [show List.filter (fun k => b.inner.any fun u => u.contains k) [k] = [] from by rw [List.filter_cons, if_neg c']; rfl, List.append_nil]
  · rintro H7 ⟨g1, g2, g3⟩
    rw [List.length_map, List.take_length] at g3
    have hp7 := g1 _ _ hp6 (.inl fun z => nomatch z)
    walk_at "rd"
    refine fld_at hp7 T.c_Layout T.n_Layout_housed (Nat.le_of_ble_eq_true rfl) (fs' := layF s v U2 S2 D) rfl fun H8 hp8 z8 => ?_
    exact q H8 U2 S2 D ((y6.trans (Exf.ext g1)).trans z8) nU2 hp8 (z8 U2 _ (g1.lst (fun z => nomatch z) hU6) nUp) (z8 S2 _ (g1.lst (fun z => nomatch z) hS6) nSp) (z8 D _ g3 nDp)
end
end Env
end
section
set_option Elab.async false
set_option linter.all false
set_option maxRecDepth 100000
set_option maxHeartbeats 4000000
namespace Env
open PySem L2
local macro_rules | `(tactic| walk_at "side") => `(tactic| first
  | assumption
  | ((try dsimp only); omega)
  | decide
  | exact ⟨by omega, by omega⟩
  | exact .inr ⟨by decide, by decide⟩
  | exact .inl ⟨by omega, by omega⟩)
local macro_rules | `(tactic| walk_at "rd1") => `(tactic| first
  | with_reducible refine Exists.intro _ (And.intro rfl ?_)
  | refine Exists.intro _ (And.intro rfl ?_)
  | refine ⟨_, _, rfl, rfl, ?_⟩
  | refine And.intro rfl ?_
  | refine ⟨_, _, _, _, rfl, rfl, SqL.of (by assumption), rfl, ?_⟩
  | refine ⟨_, _, _, _, rfl, rfl, SqL.of upd_same, rfl, ?_⟩
  | refine And.intro (szb rfl) ?_
  | refine And.intro (Or.inl (And.intro rfl (Exists.intro _ (SqL.of (by assumption))))) ?_
  | refine Or.inl (Exists.intro _ (And.intro rfl ?_))
  | refine Or.inr (Exists.intro _ (And.intro rfl ?_))
  | refine And.intro (by walk_at "side") ?_
  | refine ⟨_, _, _, _, rfl, rfl, (by assumption), rfl, ?_⟩
  | refine ⟨_, _, _, _, rfl, rfl, upd_same, rfl, ?_⟩
  | refine ⟨_, _, rfl, .inl (SqL.of (by assumption)), ?_⟩
  | refine ⟨_, _, rfl, .inl (SqL.of upd_same), ?_⟩
  | refine ⟨_, _, rfl, .inl (by assumption), ?_⟩)
local macro_rules | `(tactic| walk_at "rd") => `(tactic| repeat walk_at "rd1")
local macro_rules | `(tactic| walk_at "ds") => `(tactic| dsimp only [tNil, tCons, tC, tNoPart, tPart, tCB, tOp, tTest, tB, tCall, List.nil_append, List.cons_append, List.append_nil])
local macro_rules | `(tactic| walk_at "tup") => `(tactic| (intro t nt))

section
variable {P : Program} {w : World} {K : PySem.W.Frag} {mg : Str → Option Value} {base : Heap}
theorem ok_layouts_of (T : Tp K w mg) : FnOk P w K mg base CX0 14 T.layouts_of.f T.layouts_of.d P_layouts_of (spLays P w K T.C_Layout) := by
  refine T.layouts_of.F.ok sc_layouts_of (fun vs H Q E h => ?_) (fun cdv A outer s' H vs Q X hr hsp => ?_)
  · obtain ⟨v, t, rfl, _⟩ := h
    rfl
  obtain ⟨v, t, rfl, te, eh, es, rs, q⟩ := hsp
  refine ⟨_, (pss_cons (ps_set (i := 1) sc_layouts_of.nd rfl (Or.inl rfl) (pe_ldisp (P := P) (w := w) rfl rfl pe_non (pe_make T.made_Layout (ok_Layout___init__ T) (hr.mono (by first | decide | omega)) (by rfl) T.g_Layout T.i_Layout.b .nil pass0 (pa_cons pe_non (pa_cons (pv 0) pa_nil)))))
    (pss_cons (ps_for PassesOwn.never rfl (piL (K := K) rfl (pe_cl T.parts_of (ok_parts_of T 9) hr (by first | decide | omega) (by rfl) (pa_cons (pv 0) pa_nil))) (pg_name (i := 2) sc_layouts_of.nd rfl (Or.inl rfl)) (pss_one (ps_if (pt_cmpR op_eq (pe_ix (ixT (K := K) rfl) (pv 2) pe_int (fun _ _ => rfl)) pe_str (nomark _)) (pss_one (ps_lput (P := P) (w := w) rfl rfl (pv 1) (pe_ix (ixT (K := K) rfl) (pv 2) pe_int (fun _ _ => rfl)) (pe_make T.made_Layout (ok_Layout___init__ T) (hr.mono (by first | decide | omega)) (by rfl) T.g_Layout T.i_Layout.b .nil pass0 (pa_cons (pe_ix (ixT (K := K) rfl) (pv 2) pe_int (fun _ _ => rfl)) (pa_cons (pe_ix (ixT (K := K) rfl) (pv 2) pe_int (fun _ _ => rfl)) pa_nil))) rfl)) pss_nil)))
    (pss_one (ps_ret (pv 1))))), ?_⟩
  have hpre := t.pre_len
  have hpsz : ∀ c ∈ t.pre, c.hgt ≤ 9 ∧ c.size ≤ 60 := fun c hc => by have := t.pre_in c hc; omega
  walk_at "rd"
  intro p np H1 k1 d1
  have x1 : Ext [] H H1 := fun b o e _ => (k1 b (ne_of_none e np)).trans e
  walk_at "rd"
  intro x dx nx ndx nxd
  have nxp := d1.ne_none nx
  have ndp := d1.ne_none ndx
  have te2 : TE K (upd (upd H1 dx (.own x)) x (.ins T.C_Layout dx [])) v t := TE.ext (ms := []) (fun b o h _ => by rw [upd_ne (ne_of_none h nx), upd_ne (ne_of_none h ndx)]; exact h) (TE.ext x1 te)
  refine ⟨x, dx, none, v, t, rfl, upd_same, te2, by omega, es, fun H2 ul sl hl y2 nul h2 hul hsl hhl => ⟨rfl, ?_⟩⟩
  have x2 : Ext [] H1 H2 := made_ext nx ndx y2
  have nul1 : H1 ul = none := upd_none (upd_none nul)
  have nul0 : H ul = none := by rw [← k1 ul (d1.ne_none nul1)]; exact nul1
  refine ⟨.none, rfl, d1.ext x2, fun H3 k3 d3 => ?_⟩
  have y3 : Exf p H2 H3 := Exf.of k3
  have lay0 : LayAt K T.C_Layout H H3 x (mkLay none t) := LayAt.exfL y3 (d1.ext x2) ⟨dx, v, ul, sl, hl, nul0, h2, TE.ext x2 (TE.ext x1 te), hul, hsl, hhl⟩
  have x03 : Ext [] H H3 := (Exf.trans (Exf.ext (x1.trans x2)) y3).ext0 np
  clear hhl hsl hul h2 nul nul0 nul1 y2 te2 nxp ndp nxd ndx nx y3 k3 x2 x1 d1 k1 H1 H2
  walk_at "rd"
  refine ⟨v, t, rfl, TE.ext x03 te, by omega, es, fun L H4 ws x4 nL hL hws => ?_⟩
  have hwl := hws.len
  walk_at "rd"
  refine ⟨⟨_, SqL.of hL⟩, ?_⟩
  have d4 := d3.ext x4
  have np3 : p ≠ L := fun z => by rw [z] at d3; exact d3.ne_none nL rfl
  have el : t.lays = (.none, mkLay none t) :: (laysOf t.pre).map fun p => (.num p.1, p.2) := rfl
  rw [el] at q
  have x04 := x03.trans x4
  have lay4 := lay0.ext x4
  clear lay0 d3 x4 x03 nL el
  generalize t.pre = ps at hws hwl hpre hpsz rs q
  refine for_list (K := K) (a := L) (xs := ws) (fun i σ H' => ∃ kvs o, Ext [] H H' ∧ TEs K H' ws ps ∧ H' L = some (.lst ws) ∧ IsLD P w H' p kvs ∧ LaysAt K T.C_Layout H H' kvs ((.none, mkLay none t) :: (laysOf (ps.take i)).map fun p => (.num p.1, p.2)) ∧ σ = [some v, some (.ref p), o])
    ⟨_, _, x04, hws, hL, d4, ⟨⟨rfl, x, rfl, lay4⟩, trivial⟩, rfl⟩ (fun i σ H' _ ⟨_, _, _, _, h, _⟩ => SqL.of h) ?_ ?_
  · rintro i y σ H5 hy ⟨kvs, o, g1, g2, g3, g4, g5, rfl⟩
    have ix := (List.getElem?_eq_some_iff.mp hy).1
    obtain ⟨c, hc, tc⟩ := g2.at hy
    obtain ⟨pe, vs, rfl, hpe, hi⟩ := tc.node
    have hcs := hpsz c (List.mem_of_getElem? hc)
    have et : ps.take (i + 1) = ps.take i ++ [c] := by rw [List.take_succ, hc]; rfl
    have il : i < ps.length := (List.getElem?_eq_some_iff.mp hc).1
    have g5l := g5.len
    rw [List.length_cons, List.length_map] at g5l
    have tl := laysOf_len (ps.take i)
    rw [List.length_take] at tl
    walk_at "rd"
    refine ⟨pe, _, 0, _, rfl, rfl, hpe, atI_nat (j := 0) rfl, ?_⟩
    walk_at "rd"
    by_cases hf : ∃ n b, c = .efun n b
    · obtain ⟨n, c, rfl⟩ := hf
      refine ite2 (fun _ => ?_) (fun c => absurd wq_fun_fun c)
      obtain ⟨p2, y, ep, hpf, tb⟩ := id tc
      cases ep
      have hcs2 : c.hgt ≤ 9 ∧ c.size ≤ 60 := by simp only [Env.E.hgt, Env.E.size] at hcs; omega
      walk_at "rd"
      intro x dx nx ndx nxd
      have te2 : TE K (upd (upd H5 dx (.own x)) x (.ins T.C_Layout dx [])) y c := TE.ext (ms := []) (fun b o h _ => by rw [upd_ne (ne_of_none h nx), upd_ne (ne_of_none h ndx)]; exact h) tb
      refine ⟨x, dx, some n, y, c, rfl, upd_same, te2, hcs2.1, hcs2.2, fun H6 ul sl hl y2 nul h2 hul hsl hhl => ⟨rfl, ?_⟩⟩
      have x2 : Ext [] H5 H6 := made_ext nx ndx y2
      have nul1 : H5 ul = none := upd_none (upd_none nul)
      have nul0 : H ul = none := g1.fresh0 nul1
      have lay6 : LayAt K T.C_Layout H H6 x (mkLay (some n) c) := ⟨dx, y, ul, sl, hl, nul0, h2, TE.ext x2 tb, hul, hsl, hhl⟩
      have d6 := g4.ext x2
      have g5' := g5.ext x2
      walk_at "rd"
      refine ⟨pe, _, 1, _, rfl, rfl, x2.seqT hpf, atI_nat (j := 1) rfl, ?_⟩
      refine ⟨p, kvs, .num n, rfl, d6, rfl, small1000 (by omega), fun H7 k7 d7 => ?_⟩
      have y7 : Exf p H6 H7 := Exf.of k7
      have knew : valV kvs (.num n) = none := by
        refine valV_none_of ?_
        rw [g5.keys, List.map_cons, List.map_map]
        intro hm
        rcases List.mem_cons.mp hm with e | hm
        · cases e
        · obtain ⟨r, hr, e⟩ := List.mem_map.mp hm
          have e1 : r.1 = n := Leaf.num.inj e
          have hh : (laysOf ps).map (·.1) = (laysOf (ps.take i)).map (·.1) ++ (n :: (laysOf (ps.drop (i + 1))).map (·.1)) := by
            have : ps = ps.take i ++ (E.efun n c :: ps.drop (i + 1)) := by
              have e9 := (List.getElem?_eq_some_iff.mp hc).2
              rw [← e9, List.getElem_cons_drop, List.take_append_drop]
            conv => lhs; rw [this]
            rw [laysOf_app, List.map_append]
            rfl
          rw [hh, List.pairwise_append] at rs
          have := rs.2.2 r.1 (List.mem_map.mpr ⟨r, hr, rfl⟩) n List.mem_cons_self
          omega
      rw [putK_new _ knew] at d7
      refine ⟨_, _, (Exf.trans (Exf.ext (g1.trans x2)) y7).ext0 np, (g2.ext x2).tk (y7.tkL d6), ?_, d7, ?_, rfl⟩
      · exact y7 _ _ (x2.lst (fun z => nomatch z) g3) np3.symm
      · rw [et, laysOf_app, List.map_append]
        exact (g5'.exfL y7 d6).snoc (lay6.exfL y7 d6)
    · have hw : decide (V.str c.word = V.str "fun") = false := by
        cases c with
        | efun n b => exact absurd ⟨n, b, rfl⟩ hf
        | num n => exact wq_num_fun
        | nam _ => exact wq_name_fun
        | plus _ _ => exact wq_plus_fun
        | elet _ _ _ => exact wq_let_fun
        | call _ _ => exact wq_call_fun
        | eif _ _ _ => exact wq_if_fun
      refine ite2 (fun c => absurd c (by rw [hw]; decide)) (fun _ => ?_)
      refine ⟨kvs, _, g1, g2, g3, g4, ?_, rfl⟩
      rw [et, laysOf_app]
      have : laysOf [c] = [] := by
        cases c with
        | efun n b => exact absurd ⟨n, b, rfl⟩ hf
        | _ => rfl
      rw [this, List.append_nil]
      exact g5
  · rintro σ H5 ⟨kvs, o, g1, g2, g3, g4, g5, rfl⟩
    rw [hwl, List.take_length] at g5
    walk_at "rd"
    exact q p H5 kvs g1 np g4 g5
end
end Env
end
section
set_option Elab.async false
set_option linter.all false
set_option maxRecDepth 100000
set_option maxHeartbeats 4000000
/-! sorted of tuples that some ints ahead tell apart -/
namespace SrtO
open PySem PyProof.Rows Srt
def lexL : List Int → List Int → Bool
  | [], [] => false
  | [], _ :: _ => true
  | _ :: _, [] => false
  | a :: as, b :: bs => if a = b then lexL as bs else decide (a < b)
theorem lexL_asym : ∀ a b : List Int, lexL a b = true → lexL b a = false
  | [], [], h => by cases h
  | [], _ :: _, _ => rfl
  | _ :: _, [], h => by cases h
  | a :: as, b :: bs, h => by
    unfold lexL at h ⊢
    by_cases e : a = b
    · rw [if_pos e] at h; rw [if_pos e.symm]; exact lexL_asym as bs h
    · rw [if_neg e] at h; rw [if_neg (Ne.symm e)]
      have := of_decide_eq_true h
      exact decide_eq_false (by omega)
theorem lexL_tr : ∀ a b c : List Int, lexL b a = false → lexL c b = false → lexL c a = false
  | [], [], _, _, h => h
  | [], _ :: _, [], _, h => by cases h
  | [], _ :: _, _ :: _, _, _ => rfl
  | _ :: _, [], [], h, _ => by cases h
  | _ :: _, [], _ :: _, h, _ => by cases h
  | _ :: _, _ :: _, [], _, h => by cases h
  | a :: as, b :: bs, c :: cs, h1, h2 => by
    unfold lexL at h1 h2 ⊢
    by_cases e1 : b = a
    · rw [if_pos e1] at h1
      subst e1
      by_cases e2 : c = b
      · rw [if_pos e2] at h2 ⊢; exact lexL_tr as bs cs h1 h2
      · rw [if_neg e2] at h2 ⊢; exact h2
    · rw [if_neg e1] at h1
      have g1 := of_decide_eq_false h1
      by_cases e2 : c = b
      · subst e2
        rw [if_neg e1]; exact h1
      · rw [if_neg e2] at h2
        have g2 := of_decide_eq_false h2
        rw [if_neg (by omega)]
        exact decide_eq_false (by omega)
theorem swo_lexL {α : Type} (k : α → List Int) : Swo fun v u => lexL (k v) (k u) := ⟨fun x y h => lexL_asym _ _ h, fun x y z h1 h2 => lexL_tr _ _ _ h1 h2⟩
/-- ints as values -/
inductive IntsV : List Value → List Int → Prop
  | nil : IntsV [] []
  | cons (p : Int) (t : Tok) {xs : List Value} {ns : List Int} (h : IntsV xs ns) : IntsV (.int p t :: xs) (p :: ns)
/-- a tuple with these ints ahead -/
def IsRow (h : Heap) (v : Value) (ks : List Int) : Prop := ∃ (a : Addr) (o : Obj) (xs : Array Value) (n : Nat) (ps rest : List Value), v = .ref a ∧ h.get? a = some o ∧ o.cls = .type "tuple" ∧ o.data = .seq xs n ∧ xs.toList = ps ++ rest ∧ IntsV ps ks
theorem IsRow.keeps {h h' : Heap} {v : Value} {ks : List Int} (x : IsRow h v ks) (k : ∀ b o, h.get? b = some o → o.cls = .type "tuple" → h'.get? b = some o) : IsRow h' v ks :=
  let ⟨a, o, xs, n, ps, rest, e, ho, hc, r⟩ := x; ⟨a, o, xs, n, ps, rest, e, k _ _ ho hc, hc, r⟩
section
variable {prog : Program} {w : World} {A : Around} {E : Value → Shared → Prop} {s : Shared} {Q : Bool → Shared → Prop}
theorem one_ints (c : Bool) {p q : Int} {t u : Tok} (h : Q (decide (p < q)) s) : wpAny (model prog w) A (oneLt' c (.int p t) (.int q u)) Q E s := by
  cases c with
  | true => exact oneLt_int h
  | false => exact PySem.W.kat_one _ _ (PyProof.Rows.lt_int (Q := PySem.W.BoolBack Q) h)
theorem kat_same {b : Bool} {h : Q false s} : ∀ (xs : List Value) (i : Nat), PySem.W.KatLex prog w A b false Q (xs.zip xs) i s
  | [], _ => PySem.W.kat_nil h
  | x :: xs, i => PySem.W.kat_cons (SeqAt.EqAt.same x prog w _ _ (PySem.W.kat_yes (kat_same (h := h) xs (i + 1))))
theorem kat_apart {b fin : Bool} {xs ys : List Value} : ∀ {ps qs : List Value} {ns ms : List Int} (i : Nat), IntsV ps ns → IntsV qs ms → ns.length = ms.length → ns ≠ ms → Q (lexL ns ms) s →
    PySem.W.KatLex prog w A b fin Q ((ps ++ xs).zip (qs ++ ys)) i s
  | _, _, _, _, i, .nil, .nil, _, hn, _ => absurd rfl hn
  | _, _, _, _, i, .nil, .cons _ _ _, hl, _, _ => by simp at hl
  | _, _, _, _, i, .cons _ _ _, .nil, hl, _, _ => by simp at hl
  | _, _, _, _, i, @IntsV.cons p t ps ns hp, @IntsV.cons q u qs ms hq, hl, hn, hQ => by
    show PySem.W.KatLex prog w A b fin Q ((Value.int p t, Value.int q u) :: (ps ++ xs).zip (qs ++ ys)) i s
    refine PySem.W.kat_cons (wpAny_eqBool_int ?_)
    by_cases e : p = q
    · subst e
      rw [beq_self_eq_true]
      have e2 : lexL (p :: ns) (p :: ms) = lexL ns ms := if_pos rfl
      rw [e2] at hQ
      exact PySem.W.kat_yes (kat_apart (i + 1) hp hq (by simpa using hl) (fun z => hn (by rw [z])) hQ)
    · rw [show (p == q) = false from beq_eq_false_iff_ne.mpr e]
      have e2 : lexL (p :: ns) (q :: ms) = decide (p < q) := if_neg e
      rw [e2] at hQ
      exact PySem.W.kat_no (one_ints _ hQ)
theorem row_cmp {vs : List Value} {k : Value → List Int} {r : Nat} (hp : ∀ v ∈ vs, IsRow s.heap v (k v)) (hl : ∀ v ∈ vs, (k v).length = r) (inj : ∀ v ∈ vs, ∀ u ∈ vs, k v = k u → v = u) : Cmp prog w A s (tuples' true) (fun p => p.1 ∈ vs) (lt2 fun v u => lexL (k v) (k u)) := by
  intro p q hm hm'
  show wpAny (model prog w) A (keyLt' (tuples' true) p.1 q.1) (fun r s' => s' = s ∧ r = lexL (k p.1) (k q.1)) (fun _ _ => False) s
  by_cases e : p.1 = q.1
  · rw [← e]
    obtain ⟨a, o, xs, n, ps, rest, ev, ho, hc, hd, _, _⟩ := hp _ hm
    rw [ev]
    refine PySem.W.kat_lt ho hd ho hd ?_
    rw [show decide (xs.size < xs.size) = false from decide_eq_false (Nat.lt_irrefl _)]
    refine kat_same (h := ⟨rfl, ?_⟩) _ 0
    rw [← ev]
    exact ((swo_lexL k).refl p.1).symm
  · have hne : k p.1 ≠ k q.1 := fun z => e (inj _ hm _ hm' z)
    have hll : (k p.1).length = (k q.1).length := (hl _ hm).trans (hl _ hm').symm
    have h1 := hp _ hm
    have h2 := hp _ hm'
    generalize k p.1 = ns at hne hll h1 ⊢
    generalize k q.1 = ms at hne hll h2 ⊢
    obtain ⟨a, o, xs, n, ps, rest, ev, ho, hc, hd, hx, hi⟩ := h1
    obtain ⟨a', o', xs', n', ps', rest', ev', ho', hc', hd', hx', hi'⟩ := h2
    rw [ev, ev']
    refine PySem.W.kat_lt ho hd ho' hd' ?_
    rw [hx, hx']
    exact kat_apart 0 hi hi' hll hne ⟨rfl, rfl⟩
theorem row_firsts {h : Heap} {k : Value → List Int} : ∀ {vs : List Value}, (∀ v ∈ vs, IsRow h v (k v)) → (∀ v ∈ vs, k v ≠ []) → ∃ fs : List Value, PySem.W.KatTups h vs fs ∧ fs.length = vs.length ∧ ∀ f ∈ fs, ∃ x t, f = Value.int x t
  | [], _, _ => ⟨[], PySem.W.KatTups.nil, rfl, fun _ hm => by simp at hm⟩
  | v :: vs, hp, hn => by
    obtain ⟨fs, h1, h2, h3⟩ := row_firsts (vs := vs) (fun v' hm => hp v' (List.mem_cons_of_mem _ hm)) fun v' hm => hn v' (List.mem_cons_of_mem _ hm)
    have q := hp v List.mem_cons_self
    have ne := hn v List.mem_cons_self
    generalize k v = ks at q ne
    obtain ⟨a, o, xs, n, ps, rest, e, ho, hc, hd, hx, hi⟩ := q
    subst e
    cases hi with
    | nil => exact absurd rfl ne
    | cons p t hi =>
      refine ⟨.int p t :: fs, PySem.W.KatTups.cons ho hc hd (by rw [← Array.getElem?_toList, hx]; rfl) h1, by rw [List.length_cons, List.length_cons, h2], fun f hm => ?_⟩
      rcases List.mem_cons.mp hm with rfl | hm
      · exact ⟨p, t, rfl⟩
      · exact h3 f hm
theorem rows_sortableO {a : Addr} {vs : List Value} {k : Value → List Int} {r : Nat} (h0 : 0 < vs.length) (hp : ∀ v ∈ vs, IsRow s.heap v (k v)) (hr : 0 < r) (hl : ∀ v ∈ vs, (k v).length = r) (inj : ∀ v ∈ vs, ∀ u ∈ vs, k v = k u → v = u) (ha : ∀ o, s.heap.get? a = some o → o.cls ≠ .type "tuple") :
    SortableO prog w A s a vs fun v u => lexL (k v) (k u) := by
  intro h' keep
  have hp' : ∀ v ∈ vs, IsRow h' v (k v) := fun v hm => (hp v hm).keeps fun b o e c => keep b o (fun z => by subst z; exact ha o e c) e
  obtain ⟨fs, h1, h2, h3⟩ := row_firsts hp' fun v hm z => by have := hl v hm; rw [z] at this; simp at this; omega
  refine ⟨tuples' true, fun Q E hq => ?_, row_cmp hp' hl inj⟩
  refine PySem.W.kat_kind (T := .type "int") h1 (by omega) (fun f hm => ?_) (by rfl) ?_
  · obtain ⟨x, t, rfl⟩ := h3 f hm
    exact PySem.W.Looks.now
  · have e : (Value.type "int" != Value.type "tuple") = true := by first | decide +kernel | rfl | decide
    rw [e]
    exact hq
theorem sorted_rowsO {l : Addr} {vs : List Value} {k : Value → List Int} {r : Nat} {Q : Value → Shared → Prop} (hli : s.heap.IsList l vs.toArray) (hz : vs.length ≤ sizeLine) (hp : ∀ v ∈ vs, IsRow s.heap v (k v)) (hr : 0 < r) (hl : ∀ v ∈ vs, (k v).length = r) (inj : ∀ v ∈ vs, ∀ u ∈ vs, k v = k u → v = u)
    (h : ∀ (h' : Heap) (d : Addr) (out : List Value), Srtd (fun v u => lexL (k v) (k u)) out → Stb (fun v u => lexL (k v) (k u)) out vs → (∀ b o, s.heap.get? b = some o → h'.get? b = some o) → s.heap.objs.size ≤ d → (∃ n, h'.get? d = some (seqObj "list" out.toArray n)) → Q (.ref d) { s with heap := h' }) :
    wpAny (model prog w) A (call (.builtin "sorted") [.ref l]) Q E s := by
  refine sorted_ord (swo_lexL k) hli hz (fun h2 h₁ a ha kk => ?_) fun out hs hb => ?_
  · refine rows_sortableO (s := { s with heap := h₁ }) (by omega) (fun v hm => (hp v hm).keeps fun b o e _ => (kk b o e).2) hr hl inj fun o e => ?_
    have e' : some o = some (seqObj "list" vs.toArray 0) := e.symm.trans ha
    cases e'
    intro c
    exact absurd (Value.type.inj c) (by decide)
  · exact h _ _ out hs hb (fun b o e => sortedAll_old e) (Nat.le_succ _) (sortedAll_at s.heap vs out.toArray)
end
end SrtO
namespace Env
open PySem PySem.Spec PyProof.Rows L2
theorem intsV_of : ∀ {ns : List Int} {us : List Value}, Vals (ns.map V.int) us → SrtO.IntsV us ns
  | [], _, h => by rw [List.map_nil] at h; cases h; exact .nil
  | n :: ns, _, h => by
    rw [List.map_cons] at h
    cases h with
    | cons r t =>
      obtain ⟨k, rfl⟩ := r
      exact .cons n k (intsV_of t)
/-- sorted(xs): tuples that the first r ints tell apart; a new list -/
def rSortR (K : PySem.W.Frag) : List V → Hp → VK → Prop := fun vs H Q => ∃ (a : Addr) (ys : List V) (k : V → List Int) (r : Nat), vs = [.ref a] ∧ SqL K H a ys ∧ 0 < r ∧ (∀ y ∈ ys, ∃ p zs, y = .ref p ∧ SqT K H p ((k y).map V.int ++ zs) ∧ (k y).length = r) ∧ (∀ y ∈ ys, ∀ z ∈ ys, k y = k z → y = z) ∧
  ∀ out p, out.Perm ys → (out.Pairwise fun y z => SrtO.lexL (k z) (k y) = false) → H p = none → Q (.ref p) (upd H p (.lst out))
theorem row_of {X : Cx} {pins : List (Addr × Obj)} {σ : L2.St} {H : Hp} {s : Shared} {p : Addr} {ks : List Int} {zs : List V} (I : L2.Inv X pins σ H s) (h : SqT X.K H p (ks.map V.int ++ zs)) : SrtO.IsRow s.heap (.ref p) ks := by
  obtain ⟨its, rv, ⟨o, ho, hc, n, hd⟩, hz⟩ := I.tuple h
  have hl := rv.length
  rw [List.length_append, List.length_map] at hl
  have h1 := rv.take ks.length
  have h2 := rv.drop ks.length
  rw [List.take_append_of_le_length (by rw [List.length_map]; exact Nat.le_refl _), List.take_of_length_le (by rw [List.length_map]; exact Nat.le_refl _)] at h1
  exact ⟨p, o, _, n, its.take ks.length, its.drop ks.length, rfl, ho, hc, hd, by rw [List.take_append_drop], intsV_of h1⟩
theorem cr_sortR {X : Cx} {K : PySem.W.Frag} (hK : X.K = K) : CallR X (.builtin "sorted") (rSortR K) := by
  subst hK
  intro pins s σ H vs us Q I r h
  obtain ⟨a, ys, k, n, rfl, hs, hr, hx, inj, q⟩ := h
  obtain ⟨its, rv, hl, hz⟩ := I.list hs
  obtain ⟨u, rfl, ru⟩ := vals1 r
  obtain rfl : u = Value.ref a := ru
  obtain ⟨e1, e2⟩ := refs_back rv fun x m => by
    obtain ⟨t, _, e, _⟩ := hx x m
    exact ⟨t, e⟩
  have mem : ∀ v ∈ its, ∃ t, v = Value.ref t ∧ V.ref t ∈ ys ∧ backV v = V.ref t := fun v hv => by
    obtain ⟨t, rfl⟩ := e2 v hv
    exact ⟨t, rfl, by rw [e1]; exact List.mem_map.mpr ⟨_, hv, rfl⟩, rfl⟩
  refine SrtO.sorted_rowsO (k := fun u => k (backV u)) (r := n) hl.isList (by rw [← rv.length]; exact hz) (fun v hv => ?_) hr (fun v hv => ?_) (fun v hv u hu e => ?_) fun h' d out h1 h2 kp hd hn => ?_
  · obtain ⟨t, rfl, hm, eb⟩ := mem v hv
    obtain ⟨t', zs, e, ht, _⟩ := hx _ hm
    cases e
    rw [eb]
    exact row_of I ht
  · obtain ⟨t, rfl, hm, eb⟩ := mem v hv
    obtain ⟨t', zs, e, ht, hlen⟩ := hx _ hm
    rw [eb]; exact hlen
  · obtain ⟨t, rfl, hm, eb⟩ := mem v hv
    obtain ⟨t2, rfl, hm2, eb2⟩ := mem u hu
    rw [eb, eb2] at e
    have := inj _ hm _ hm2 e
    cases this
    rfl
  · have h3 : ∀ u ∈ out, ∃ a, u = Value.ref a := fun u hu => e2 u (h2.perm.mem_iff.mp hu)
    obtain ⟨n, hn⟩ := hn
    have hb : SrtO.Stb (fun y z => SrtO.lexL (k y) (k z)) (out.map backV) ys := by
      rw [e1]
      exact SrtO.Stb.map (SrtO.swo_lexL k) backV h2
    refine ⟨.ref d, upd H d (.lst (out.map backV)), I.laid (t' := s.toks) kp hd ⟨?_, out, n, vals_back h3, hn⟩, rfl, q _ d hb.perm (SrtO.srtd_map (lt := fun y z => SrtO.lexL (k y) (k z)) h1) (I.hok.fresh hd)⟩
    rw [hb.len]
    exact hz
end Env
end
section
set_option Elab.async false
set_option linter.all false
set_option maxRecDepth 100000
set_option maxHeartbeats 4000000
namespace Env
open PySem PySem.Spec PyProof.Rows L2
/-- slots stored one by one; none: a place that no name takes -/
def setW : L2.St → List (Option Nat) → List V → L2.St
  | σ, some i :: is, v :: vs => setW (σ.set i (some v)) is vs
  | σ, none :: is, _ :: vs => setW σ is vs
  | σ, _, _ => σ
/-- names that take what stands at their place, or _ -/
inductive PNw (X : Cx) : List Pattern → List (Option Str) → List (Option Nat) → Prop where
  | nil : PNw X [] [] []
  | cons {x : Str} {p : Pos} {i : Nat} {ps : List Pattern} {ns : List (Option Str)} {is : List (Option Nat)} (hi : X.N[i]? = some x) (hx : Loc X.env.scope x) (hf : X.fn x = true ∨ X.env.scope.names.lookup x = some .local) (t : PNw X ps ns is) :
      PNw X (.MatchAs none (some x) p :: ps) (some x :: ns) (some i :: is)
  | wild {p : Pos} {ps : List Pattern} {ns : List (Option Str)} {is : List (Option Nat)} (t : PNw X ps ns is) : PNw X (.MatchAs none none p :: ps) (none :: ns) (none :: is)
theorem PNw.len {X : Cx} {ps : List Pattern} {ns : List (Option Str)} {is : List (Option Nat)} (h : PNw X ps ns is) : ps.length = is.length := by
  induction h with
  | nil => rfl
  | cons _ _ _ _ ih => exact congrArg (· + 1) ih
  | wild _ ih => exact congrArg (· + 1) ih
theorem PNw.len2 {X : Cx} {ps : List Pattern} {ns : List (Option Str)} {is : List (Option Nat)} (h : PNw X ps ns is) : ns.length = is.length := by
  induction h with
  | nil => rfl
  | cons _ _ _ _ ih => exact congrArg (· + 1) ih
  | wild _ ih => exact congrArg (· + 1) ih
def capW : List (Option Str) → List Value → List (Str × Value)
  | some x :: ns, u :: us => (x, u) :: capW ns us
  | none :: ns, _ :: us => capW ns us
  | _, _ => []
section
variable {X : Cx} {A : Around} {E : Value → Shared → Prop}
theorem each_namesW {ps : List Pattern} {ns : List (Option Str)} {is : List (Option Nat)} (h : PNw X ps ns is) : ∀ {env : Env} {us : List Value} {s : Shared} {Q : Option (List (Str × Value)) → Shared → Prop}, us.length = ps.length → Q (some (capW ns us)) s →
    wpAny (model X.prog X.w) A (matchEach ps env us) Q E s := by
  induction h with
  | nil =>
    intro env us s Q hl hq
    match us, hl with
    | [], _ => exact wpAny_matchEach_nil hq
  | cons hi hx hf t ih =>
    intro env us s Q hl hq
    match us, hl with
    | u :: r, hl =>
      refine wpAny_matchEach_cons (wpAny_matchPattern_Capture ?_)
      exact ih (Nat.succ.inj hl) hq
  | wild t ih =>
    intro env us s Q hl hq
    match us, hl with
    | u :: r, hl =>
      refine wpAny_matchEach_cons (wpAny_matchPattern_Capture ?_)
      exact ih (Nat.succ.inj hl) hq
theorem bind_namesW {ps : List Pattern} {ns : List (Option Str)} {is : List (Option Nat)} (h : PNw X ps ns is) (hN : X.N.Nodup) : ∀ {pins : List (Addr × Obj)} {σ : L2.St} {H : Hp} {s : Shared} {vs : List V} {us : List Value} {Q : Unit → Shared → Prop}, Inv X pins σ H s → Vals vs us → us.length = ns.length →
    (∀ s', Inv X pins (setW σ is vs) H s' → Q () s') → wpAny (model X.prog X.w) A (assignInOrder ((capW ns us).map fun (n, _) => bindName X.env n) ((capW ns us).map (·.2))) Q E s := by
  induction h with
  | nil =>
    intro pins σ H s vs us Q I r hl hq
    cases us with
    | nil => cases r; exact wpAny_pure (hq s I)
    | cons _ _ => cases hl
  | cons hi hx hf t ih =>
    intro pins σ H s vs us Q I r hl hq
    cases r with
    | nil => cases hl
    | cons r0 rt =>
      refine wpAny_bind (wpAny_holding (wpAny_bindName (store_ok I hN hi hx r0 (fun s' I' => ?_) hf)))
      exact ih I' rt (Nat.succ.inj hl) hq
  | wild t ih =>
    intro pins σ H s vs us Q I r hl hq
    cases r with
    | nil => cases hl
    | cons r0 rt => exact ih I rt (Nat.succ.inj hl) hq
/-- case (word, name, _, ..) -/
def tWordW (K : PySem.W.Frag) (c : Str) (is : List (Option Nat)) (tb : TS) (tr : V → TS) : V → TS := fun v D σ H => ∃ (a : Addr) (z : Str) (xs : List V), v = .ref a ∧ SqT K H a (.str z :: xs) ∧ xs.length ≤ 100 ∧
  ((z = c ∧ xs.length = is.length) → tb D (setW σ is xs) H) ∧ (¬ (z = c ∧ xs.length = is.length) → tr v D σ H)
theorem pcs_wordW {K : PySem.W.Frag} {c : Str} {j : Nat} {cp vp pos : Pos} {ps : List Pattern} {ns : List (Option Str)} {is : List (Option Nat)} {body : List Stmt} {rest : List MatchCase} {tb : TS} {tr : V → TS} (hK : X.K = K) (hc : X.calm = true) (hN : X.N.Nodup)
    (hp : PNw X ps ns is) (hb : PSs X body tb) (hr : PCs X rest tr) (hstar : (Pattern.MatchValue (.Constant (.str c) j cp) vp :: ps).findIdx? (·.isStar) = none := by rfl)
    (hwild : ((Pattern.MatchValue (.Constant (.str c) j cp) vp :: ps).all fun p => p.isWildcard || (p.isStar && p.names.isEmpty)) = false := by rfl) :
    PCs X (⟨.MatchSequence (.MatchValue (.Constant (.str c) j cp) vp :: ps) pos, none, body⟩ :: rest) (tWordW K c is tb tr) := by
  subst hK
  constructor
  intro first pins s σ H D v u I r h
  obtain ⟨a, z, xs, rfl, ha, hxl, h1, h2⟩ := h
  cases r
  obtain ⟨its, rv, ht, hz⟩ := I.tuple ha
  have hlen := rv.length
  rw [List.length_cons] at hlen
  have pl := hp.len
  have fit : ((its.toArray.size : Nat) : Int) < 2 ^ 63 := by rw [List.size_toArray, ← hlen]; omega
  refine wpAny_matchCases_cons ?_
  have go_rest : ∀ tk, (¬ (z = c ∧ xs.length = is.length)) → wpAny (model X.prog X.w) X.A (matchCases rest X.env (.ref a) false) (SP X pins D) X.xe { s with toks := tk } := fun tk hn =>
    hr.run false pins _ σ H D (.ref a) (.ref a) (I.tok tk) rfl (h2 hn)
  by_cases hl : xs.length = is.length
  · refine matchSeq_tuple_hit ht fit (by rw [List.size_toArray, ← hlen, List.length_cons, pl, hl]) ?_ hstar hwild
    have un : ∀ (s0 : Shared) (Q : List Value → Shared → Prop), s0.heap = s.heap → (∀ h', Heap.ExtBut s0.heap.objs.size s0.heap h' → Q its { s0 with heap := h' }) → wpAny (model X.prog X.w) X.A (unpackItems (.ref a) its.toArray.size none) Q X.xe s0 := fun s0 Q e hq =>
      unpackItems_tuple (I.ok.hd hc) (by rw [e]; exact ht) (by simpa using hq)
    rw [show (Pattern.MatchValue (.Constant (.str c) j cp) vp :: ps).length = its.toArray.size by rw [List.size_toArray, ← hlen, List.length_cons, pl, hl]]
    refine un _ _ rfl fun h' ext => ?_
    cases rv with
    | cons r0 rt =>
      obtain ⟨t0, rfl⟩ := r0
      have kept : ∀ b o, s.heap.get? b = some o → h'.get? b = some o := fun b o e => ext b o (Nat.ne_of_lt (Heap.lt_size e)) e
      have I1 : ∀ tk, Inv X pins σ H { s with heap := h', toks := tk } := fun tk => I.kept (t' := tk) kept
      refine wpAny_matchEach_cons (wpAny_matchPattern_Value (Calls.Constant_str (eq_str (wpAny_truthy_bool ?_))))
      by_cases hzc : z = c
      · rw [if_pos (by rw [hzc]; exact beq_self_eq_true c)]
        refine each_namesW hp (by rw [← rt.length, hl, pl]) ?_
        have nl := hp.len2
        dsimp only [List.nil_append]
        refine bind_namesW hp hN (I1 _) rt (by rw [← rt.length, hl, nl]) fun s' I' => ?_
        exact hb.run pins s' _ H D I' (h1 ⟨hzc, hl⟩)
      · have nb : (z == c) = false := beq_eq_false_iff_ne.mpr hzc
        rw [nb]
        exact hr.run false pins _ σ H D (.ref a) (.ref a) (I1 _) rfl (h2 fun q => hzc q.1)
  · refine matchSeq_tuple_miss ht fit (by rw [List.size_toArray, ← hlen, List.length_cons, pl]; omega) ?_ hstar hwild
    exact go_rest _ fun q => hl q.2
/-- case _ -/
theorem pcs_wild {p : Pos} {body : List Stmt} {rest : List MatchCase} {tb : TS} (hb : PSs X body tb) : PCs X (⟨.MatchAs none none p, none, body⟩ :: rest) (fun _ => tb) := by
  constructor
  intro first pins s σ H D v u I r h
  refine wpAny_matchCases_cons (wpAny_matchPattern_Capture ?_)
  show wpAny _ _ (assignInOrder [] []) _ _ _
  exact wpAny_pure (hb.run pins s σ H D I h)
end
end Env
end
section
set_option Elab.async false
set_option linter.all false
set_option maxRecDepth 100000
set_option maxHeartbeats 4000000
namespace Env
open PySem L2
/-! ### data -/
mutual
theorem Dp.ext {K : PySem.W.Frag} {H H' : Hp} (x : Ext [] H H') : ∀ (d : PyData) (v : V), Dp K H v d → Dp K H' v d
  | .none, _, h => by cases h; exact .non
  | .bool b, _, h => by cases h; exact .bl b
  | .int i, _, h => by cases h; exact .int i
  | .str z, _, h => by cases h; exact .str z
  | .list ds, _, h => by
    cases h with
    | lst a b => exact .lst (x.seqL (fun z => nomatch z) a) (DpAll.ext x ds _ b)
  | .tuple ds, _, h => by
    cases h with
    | tup a b => exact .tup (x.seqT a) (DpAll.ext x ds _ b)
  | .dict _, _, h => by cases h
theorem DpAll.ext {K : PySem.W.Frag} {H H' : Hp} (x : Ext [] H H') : ∀ (ds : List PyData) (vs : List V), DpAll K H vs ds → DpAll K H' vs ds
  | [], _, h => by cases h; exact .nil
  | d :: ds, _, h => by
    cases h with
    | cons a b => exact .cons (Dp.ext x d _ a) (DpAll.ext x ds _ b)
end
theorem _root_.L2.DpAll.len {K : PySem.W.Frag} {H : Hp} : ∀ {ds : List PyData} {vs : List V}, DpAll K H vs ds → vs.length = ds.length
  | [], _, h => by cases h; rfl
  | _ :: _, _, h => by
    cases h with
    | cons _ b => exact congrArg (· + 1) b.len
theorem _root_.L2.DpAll.at {K : PySem.W.Frag} {H : Hp} : ∀ {ds : List PyData} {vs : List V} {i : Nat} {v : V}, DpAll K H vs ds → vs[i]? = some v → ∃ d, ds[i]? = some d ∧ Dp K H v d
  | [], _, _, _, h, e => by cases h; simp at e
  | d :: _, _, 0, _, h, e => by
    cases h with
    | cons a _ => cases e; exact ⟨d, rfl, a⟩
  | _ :: _, _, i + 1, _, h, e => by
    cases h with
    | cons _ b => exact b.at (i := i) e
theorem _root_.L2.DpAll.snoc {K : PySem.W.Frag} {H : Hp} {d : PyData} {v : V} (h : Dp K H v d) : ∀ {ds : List PyData} {vs : List V}, DpAll K H vs ds → DpAll K H (vs ++ [v]) (ds ++ [d])
  | [], _, q => by cases q; exact .cons h .nil
  | _ :: _, _, q => by
    cases q with
    | cons a b => exact .cons a (b.snoc h)
theorem dpInts {K : PySem.W.Frag} {H : Hp} : ∀ l : List Int, DpAll K H (l.map V.int) (l.map PyData.int)
  | [] => .nil
  | i :: l => .cons (.int i) (dpInts l)
/-- data that alike looks through -/
def fitD : Nat → PyData → Prop
  | 0, _ => False
  | n + 1, .none => True
  | n + 1, .int _ => True
  | n + 1, .str z => SeqAt.shaped (.str z) = true
  | n + 1, .list ds => ds.length ≤ 100 ∧ ∀ d ∈ ds, fitD n d
  | n + 1, .tuple ds => ds.length ≤ 100 ∧ ∀ d ∈ ds, fitD n d
  | n + 1, .bool _ => False
  | n + 1, .dict _ => False
theorem fitD.mono : ∀ {n m : Nat} {d : PyData}, fitD n d → n ≤ m → fitD m d
  | 0, _, _, h, _ => h.elim
  | n + 1, 0, _, _, h => absurd h (by omega)
  | n + 1, m + 1, .none, _, _ => trivial
  | n + 1, m + 1, .int _, _, _ => trivial
  | n + 1, m + 1, .str _, h, _ => h
  | n + 1, m + 1, .list _, ⟨a, b⟩, h => ⟨a, fun d hd => (b d hd).mono (Nat.le_of_succ_le_succ h)⟩
  | n + 1, m + 1, .tuple _, ⟨a, b⟩, h => ⟨a, fun d hd => (b d hd).mono (Nat.le_of_succ_le_succ h)⟩
  | n + 1, m + 1, .bool _, h, _ => h.elim
  | n + 1, m + 1, .dict _, h, _ => h.elim
theorem Sm.of {K : PySem.W.Frag} {H : Hp} : ∀ {n : Nat} {d : PyData} {v u : V}, fitD n d → Dp K H v d → Dp K H u d → Sm K H n v u
  | 0, _, _, _, h, _, _ => h.elim
  | n + 1, .none, _, _, _, a, b => by cases a; cases b; exact .inr (.inr (.inr ⟨rfl, rfl⟩))
  | n + 1, .int i, _, _, _, a, b => by cases a; cases b; exact .inl ⟨i, rfl, rfl⟩
  | n + 1, .str z, _, _, h, a, b => by cases a; cases b; exact .inr (.inr (.inl ⟨z, rfl, rfl, h⟩))
  | n + 1, .list ds, _, _, ⟨h, g⟩, a, b => by
    cases a with
    | lst a1 a2 =>
      cases b with
      | lst b1 b2 =>
        refine .inr (.inl ⟨_, _, _, _, rfl, rfl, .inl ⟨a1, b1⟩, by rw [a2.len, b2.len], by rw [b2.len]; exact h, fun i x y hx hy => ?_⟩)
        obtain ⟨d, hd, dx⟩ := a2.at hx
        obtain ⟨d', hd', dy⟩ := b2.at hy
        rw [hd] at hd'
        cases hd'
        exact Sm.of (g d (List.mem_of_getElem? hd)) dx dy
  | n + 1, .tuple ds, _, _, ⟨h, g⟩, a, b => by
    cases a with
    | tup a1 a2 =>
      cases b with
      | tup b1 b2 =>
        refine .inr (.inl ⟨_, _, _, _, rfl, rfl, .inr ⟨a1, b1⟩, by rw [a2.len, b2.len], by rw [b2.len]; exact h, fun i x y hx hy => ?_⟩)
        obtain ⟨d, hd, dx⟩ := a2.at hx
        obtain ⟨d', hd', dy⟩ := b2.at hy
        rw [hd] at hd'
        cases hd'
        exact Sm.of (g d (List.mem_of_getElem? hd)) dx dy
  | n + 1, .bool _, _, _, h, _, _ => h.elim
  | n + 1, .dict _, _, _, h, _, _ => h.elim
/-! ### marked programs: sites by number, names bound -/
def E.wf : E → Int → (Int → Prop) → Prop
  | .num _, _, _ => True
  | .nam s, _, A => A s
  | .plus a b, n, A => a.wf n A ∧ b.wf (n + a.sites) A
  | .elet s a b, n, A => s = n ∧ a.wf (n + 1) A ∧ b.wf (n + 1 + a.sites) fun j => j = n ∨ A j
  | .efun s b, n, A => s = n ∧ b.wf (n + 1) fun j => j = n ∨ A j
  | .call a b, n, A => a.wf n A ∧ b.wf (n + a.sites) A
  | .eif a b c, n, A => a.wf n A ∧ b.wf (n + a.sites) A ∧ c.wf (n + a.sites + b.sites) A
theorem E.mk_sites : ∀ (e : E) (n : Int) (ρ : Int → Int), (e.mk n ρ).sites = e.sites
  | .num _, _, _ => rfl
  | .nam _, _, _ => rfl
  | .plus a b, n, ρ => by simp only [Env.E.mk, Env.E.sites, a.mk_sites, b.mk_sites]
  | .elet _ a b, n, ρ => by simp only [Env.E.mk, Env.E.sites, a.mk_sites, b.mk_sites]
  | .efun _ a, n, ρ => by simp only [Env.E.mk, Env.E.sites, a.mk_sites]
  | .call a b, n, ρ => by simp only [Env.E.mk, Env.E.sites, a.mk_sites, b.mk_sites]
  | .eif a b c, n, ρ => by simp only [Env.E.mk, Env.E.sites, a.mk_sites, b.mk_sites, c.mk_sites]
theorem E.mk_wf : ∀ (e : E) (n : Int) (ρ : Int → Int) (S A : Int → Prop), e.ok S → (∀ k, S k → A (ρ k)) → (e.mk n ρ).wf n A
  | .num _, _, _, _, _, _, _ => trivial
  | .nam k, _, _, _, _, h, g => g k h.2.2
  | .plus a b, n, ρ, S, A, h, g => ⟨a.mk_wf n ρ S A h.1 g, by rw [a.mk_sites]; exact b.mk_wf _ ρ S A h.2 g⟩
  | .call a b, n, ρ, S, A, h, g => ⟨a.mk_wf n ρ S A h.1 g, by rw [a.mk_sites]; exact b.mk_wf _ ρ S A h.2 g⟩
  | .eif a b c, n, ρ, S, A, h, g => ⟨a.mk_wf n ρ S A h.1 g, by rw [a.mk_sites]; exact b.mk_wf _ ρ S A h.2.1 g, by rw [a.mk_sites, b.mk_sites]; exact c.mk_wf _ ρ S A h.2.2 g⟩
  | .elet k a b, n, ρ, S, A, h, g => ⟨rfl, a.mk_wf (n + 1) ρ S A h.2.2.1 g, by
      rw [a.mk_sites]
      refine b.mk_wf _ (put ρ k n) _ _ h.2.2.2 fun j hj => ?_
      unfold put
      by_cases e : j = k
      · rw [if_pos e]; exact .inl rfl
      · rw [if_neg e]; exact .inr (g j (hj.resolve_left e))⟩
  | .efun k b, n, ρ, S, A, h, g => ⟨rfl, by
      refine b.mk_wf _ (put ρ k n) _ _ h.2.2 fun j hj => ?_
      unfold put
      by_cases e : j = k
      · rw [if_pos e]; exact .inl rfl
      · rw [if_neg e]; exact .inr (g j (hj.resolve_left e))⟩
theorem low_mem (m u : Int) : ∀ l : List E, u ∈ E.low m l ↔ E.nam u ∈ l ∧ u < m
  | [] => by simp [E.low]
  | .nam k :: r => by
    have q := low_mem m u r
    show u ∈ (if k < m then k :: E.low m r else E.low m r) ↔ _
    by_cases h : k < m
    · rw [if_pos h, List.mem_cons, q, List.mem_cons]
      constructor
      · rintro (rfl | ⟨a, b⟩)
        · exact ⟨.inl rfl, h⟩
        · exact ⟨.inr a, b⟩
      · rintro ⟨a | a, b⟩
        · cases a; exact .inl rfl
        · exact .inr ⟨a, b⟩
    · rw [if_neg h, q, List.mem_cons]
      constructor
      · rintro ⟨a, b⟩; exact ⟨.inr a, b⟩
      · rintro ⟨a | a, b⟩
        · cases a; exact absurd b h
        · exact ⟨a, b⟩
  | .num _ :: r => by have q := low_mem m u r; show u ∈ E.low m r ↔ _; rw [q, List.mem_cons]; exact ⟨fun ⟨a, b⟩ => ⟨.inr a, b⟩, fun ⟨a, b⟩ => ⟨a.resolve_left (fun z => nomatch z), b⟩⟩
  | .plus _ _ :: r => by have q := low_mem m u r; show u ∈ E.low m r ↔ _; rw [q, List.mem_cons]; exact ⟨fun ⟨a, b⟩ => ⟨.inr a, b⟩, fun ⟨a, b⟩ => ⟨a.resolve_left (fun z => nomatch z), b⟩⟩
  | .elet _ _ _ :: r => by have q := low_mem m u r; show u ∈ E.low m r ↔ _; rw [q, List.mem_cons]; exact ⟨fun ⟨a, b⟩ => ⟨.inr a, b⟩, fun ⟨a, b⟩ => ⟨a.resolve_left (fun z => nomatch z), b⟩⟩
  | .efun _ _ :: r => by have q := low_mem m u r; show u ∈ E.low m r ↔ _; rw [q, List.mem_cons]; exact ⟨fun ⟨a, b⟩ => ⟨.inr a, b⟩, fun ⟨a, b⟩ => ⟨a.resolve_left (fun z => nomatch z), b⟩⟩
  | .call _ _ :: r => by have q := low_mem m u r; show u ∈ E.low m r ↔ _; rw [q, List.mem_cons]; exact ⟨fun ⟨a, b⟩ => ⟨.inr a, b⟩, fun ⟨a, b⟩ => ⟨a.resolve_left (fun z => nomatch z), b⟩⟩
  | .eif _ _ _ :: r => by have q := low_mem m u r; show u ∈ E.low m r ↔ _; rw [q, List.mem_cons]; exact ⟨fun ⟨a, b⟩ => ⟨.inr a, b⟩, fun ⟨a, b⟩ => ⟨a.resolve_left (fun z => nomatch z), b⟩⟩
/-- a name whose site lies ahead of all within is bound around -/
theorem E.nam_scope : ∀ {e : E} {n u : Int} {A : Int → Prop}, e.wf n A → E.nam u ∈ e.pre → u < n → A u
  | .num _, _, _, _, _, m, _ => by simp [Env.E.pre] at m
  | .nam s, _, _, _, h, m, _ => by simp [Env.E.pre] at m; subst m; exact h
  | .plus a b, n, u, A, h, m, l => by
    simp [Env.E.pre] at m
    rcases m with m | m
    · exact E.nam_scope h.1 m l
    · exact E.nam_scope h.2 m (by omega)
  | .call a b, n, u, A, h, m, l => by
    simp [Env.E.pre] at m
    rcases m with m | m
    · exact E.nam_scope h.1 m l
    · exact E.nam_scope h.2 m (by omega)
  | .eif a b c, n, u, A, h, m, l => by
    simp [Env.E.pre] at m
    rcases m with m | m | m
    · exact E.nam_scope h.1 m l
    · exact E.nam_scope h.2.1 m (by omega)
    · exact E.nam_scope h.2.2 m (by omega)
  | .elet s a b, n, u, A, h, m, l => by
    simp [Env.E.pre] at m
    rcases m with m | m
    · exact E.nam_scope h.2.1 m (by omega)
    · exact (E.nam_scope h.2.2 m (by omega)).resolve_left (by omega)
  | .efun s b, n, u, A, h, m, l => by
    simp [Env.E.pre] at m
    exact (E.nam_scope h.2 m (by omega)).resolve_left (by omega)
/-- a fun within -/
theorem E.fun_wf : ∀ {e : E} {n f : Int} {c : E} {A : Int → Prop}, e.wf n A → E.efun f c ∈ e.pre → n ≤ f ∧ f < n + e.sites ∧ ∃ A' : Int → Prop, c.wf (f + 1) (fun j => j = f ∨ A' j) ∧ ∀ s, A' s → A s ∨ (n ≤ s ∧ s < f)
  | .num _, _, _, _, _, _, m => by simp [Env.E.pre] at m
  | .nam s, _, _, _, _, _, m => by simp [Env.E.pre] at m
  | .plus a b, n, f, c, A, h, m => by
    simp [Env.E.pre] at m
    simp only [Env.E.sites]
    rcases m with m | m
    · obtain ⟨h1, h2, A', h3, h4⟩ := E.fun_wf h.1 m
      exact ⟨h1, by omega, A', h3, h4⟩
    · obtain ⟨h1, h2, A', h3, h4⟩ := E.fun_wf h.2 m
      exact ⟨by omega, by omega, A', h3, fun s hs => (h4 s hs).imp id fun ⟨x, y⟩ => ⟨by omega, y⟩⟩
  | .call a b, n, f, c, A, h, m => by
    simp [Env.E.pre] at m
    simp only [Env.E.sites]
    rcases m with m | m
    · obtain ⟨h1, h2, A', h3, h4⟩ := E.fun_wf h.1 m
      exact ⟨h1, by omega, A', h3, h4⟩
    · obtain ⟨h1, h2, A', h3, h4⟩ := E.fun_wf h.2 m
      exact ⟨by omega, by omega, A', h3, fun s hs => (h4 s hs).imp id fun ⟨x, y⟩ => ⟨by omega, y⟩⟩
  | .eif a b d, n, f, c, A, h, m => by
    simp [Env.E.pre] at m
    simp only [Env.E.sites]
    rcases m with m | m | m
    · obtain ⟨h1, h2, A', h3, h4⟩ := E.fun_wf h.1 m
      exact ⟨h1, by omega, A', h3, h4⟩
    · obtain ⟨h1, h2, A', h3, h4⟩ := E.fun_wf h.2.1 m
      exact ⟨by omega, by omega, A', h3, fun s hs => (h4 s hs).imp id fun ⟨x, y⟩ => ⟨by omega, y⟩⟩
    · obtain ⟨h1, h2, A', h3, h4⟩ := E.fun_wf h.2.2 m
      exact ⟨by omega, by omega, A', h3, fun s hs => (h4 s hs).imp id fun ⟨x, y⟩ => ⟨by omega, y⟩⟩
  | .elet s a b, n, f, c, A, h, m => by
    simp [Env.E.pre] at m
    simp only [Env.E.sites]
    rcases m with m | m
    · obtain ⟨h1, h2, A', h3, h4⟩ := E.fun_wf h.2.1 m
      exact ⟨by omega, by omega, A', h3, fun s hs => (h4 s hs).imp id fun ⟨x, y⟩ => ⟨by omega, y⟩⟩
    · obtain ⟨h1, h2, A', h3, h4⟩ := E.fun_wf h.2.2 m
      refine ⟨by omega, by omega, A', h3, fun s hs => ?_⟩
      rcases h4 s hs with (rfl | x) | ⟨x, y⟩
      · exact .inr ⟨by omega, by omega⟩
      · exact .inl x
      · exact .inr ⟨by omega, y⟩
  | .efun s b, n, f, c, A, h, m => by
    simp [Env.E.pre] at m
    simp only [Env.E.sites]
    rcases m with ⟨rfl, rfl⟩ | m
    · obtain ⟨rfl, h2⟩ := h
      exact ⟨by omega, by omega, A, h2, fun s hs => .inl hs⟩
    · obtain ⟨h1, h2, A', h3, h4⟩ := E.fun_wf h.2 m
      refine ⟨by omega, by omega, A', h3, fun s hs => ?_⟩
      rcases h4 s hs with (rfl | x) | ⟨x, y⟩
      · exact .inr ⟨by omega, by omega⟩
      · exact .inl x
      · exact .inr ⟨by omega, y⟩
/-! ### pieces -/
def srcD (l : Lay) (s : Int) : PyData := if l.sites.contains s then .tuple [.str "own", .int s] else .tuple [.str "copy", .int (l.used.idxOf s : Nat)]
def E.cut (l : Lay) (U : Int → List Int) : E → PyData
  | .num n => .tuple [.str "num", .int n]
  | .nam s => srcD l s
  | .plus a b => .tuple [.str "plus", a.cut l U, b.cut l U]
  | .elet s a b => .tuple [.str "let", .int s, a.cut l U, b.cut l U]
  | .efun s _ => .tuple [.str "make", .int s, .tuple ((U s).map (srcD l))]
  | .call a b => .tuple [.str "call", a.cut l U, b.cut l U]
  | .eif a b c => .tuple [.str "if", a.cut l U, b.cut l U, c.cut l U]
/-- each name, each used site is in the piece's cells or copies; the funs have their layouts -/
def E.cutOk (l : Lay) (U : Int → List Int) (ls : List (Leaf × Lay)) : E → Prop
  | .num _ => True
  | .nam s => s ∈ l.sites ∨ s ∈ l.used
  | .plus a b => a.cutOk l U ls ∧ b.cutOk l U ls
  | .elet _ a b => a.cutOk l U ls ∧ b.cutOk l U ls
  | .efun s _ => (∀ u ∈ U s, u ∈ l.sites ∨ u ∈ l.used) ∧ ∃ y, (Leaf.num s, y) ∈ ls ∧ y.used = U s
  | .call a b => a.cutOk l U ls ∧ b.cutOk l U ls
  | .eif a b c => a.cutOk l U ls ∧ b.cutOk l U ls ∧ c.cutOk l U ls
theorem E.cut_ok {l : Lay} {U : Int → List Int} {ls : List (Leaf × Lay)} {f : Int} : ∀ {e : E} {n : Int} {A : Int → Prop}, e.wf n A → (∀ s, A s → s < n) → (∀ s, A s → s < f ∨ s ∈ l.sites ∨ s ∈ l.used) → (∀ s, E.nam s ∈ e.pre → s < f → s ∈ l.sites ∨ s ∈ l.used) →
    (∀ s ∈ e.lets, s ∈ l.sites) → (∀ g c, E.efun g c ∈ e.pre → U g = srt (E.low g c.pre) ∧ ∃ y, (Leaf.num g, y) ∈ ls ∧ y.used = U g) → e.cutOk l U ls
  | .num _, _, _, _, _, _, _, _, _ => trivial
  | .nam s, _, _, h, _, hA, hn, _, _ => (hA s h).elim (fun q => hn s (by simp [Env.E.pre]) q) id
  | .plus a b, n, A, h, hl, hA, hn, ht, hU => ⟨E.cut_ok h.1 hl hA (fun s m => hn s (by simp [Env.E.pre, m])) (fun s m => ht s (by simp [Env.E.lets, m])) (fun g c m => hU g c (by simp [Env.E.pre, m])),
      E.cut_ok h.2 (fun s q => by have := hl s q; omega) hA (fun s m => hn s (by simp [Env.E.pre, m])) (fun s m => ht s (by simp [Env.E.lets, m])) (fun g c m => hU g c (by simp [Env.E.pre, m]))⟩
  | .call a b, n, A, h, hl, hA, hn, ht, hU => ⟨E.cut_ok h.1 hl hA (fun s m => hn s (by simp [Env.E.pre, m])) (fun s m => ht s (by simp [Env.E.lets, m])) (fun g c m => hU g c (by simp [Env.E.pre, m])),
      E.cut_ok h.2 (fun s q => by have := hl s q; omega) hA (fun s m => hn s (by simp [Env.E.pre, m])) (fun s m => ht s (by simp [Env.E.lets, m])) (fun g c m => hU g c (by simp [Env.E.pre, m]))⟩
  | .eif a b d, n, A, h, hl, hA, hn, ht, hU => ⟨E.cut_ok h.1 hl hA (fun s m => hn s (by simp [Env.E.pre, m])) (fun s m => ht s (by simp [Env.E.lets, m])) (fun g c m => hU g c (by simp [Env.E.pre, m])),
      E.cut_ok h.2.1 (fun s q => by have := hl s q; omega) hA (fun s m => hn s (by simp [Env.E.pre, m])) (fun s m => ht s (by simp [Env.E.lets, m])) (fun g c m => hU g c (by simp [Env.E.pre, m])),
      E.cut_ok h.2.2 (fun s q => by have := hl s q; omega) hA (fun s m => hn s (by simp [Env.E.pre, m])) (fun s m => ht s (by simp [Env.E.lets, m])) (fun g c m => hU g c (by simp [Env.E.pre, m]))⟩
  | .elet s a b, n, A, h, hl, hA, hn, ht, hU => ⟨E.cut_ok h.2.1 (fun s q => by have := hl s q; omega) hA (fun s m => hn s (by simp [Env.E.pre, m])) (fun s m => ht s (by simp [Env.E.lets, m])) (fun g c m => hU g c (by simp [Env.E.pre, m])),
      E.cut_ok h.2.2 (fun s q => by
        rcases q with rfl | q
        · omega
        · have := hl s q; omega) (fun j q => by
        rcases q with rfl | q
        · exact .inr (.inl (ht _ (by rw [h.1]; simp [Env.E.lets])))
        · exact hA j q) (fun s m => hn s (by simp [Env.E.pre, m])) (fun s m => ht s (by simp [Env.E.lets, m])) (fun g c m => hU g c (by simp [Env.E.pre, m]))⟩
  | .efun s b, n, A, h, hl, hA, hn, ht, hU => by
    obtain ⟨h1, h2⟩ := hU s b (by simp [Env.E.pre])
    refine ⟨fun u hu => ?_, h2⟩
    rw [h1, srt_mem, low_mem] at hu
    have hs : s = n := h.1
    have q := (E.nam_scope h.2 hu.1 (by omega)).resolve_left (by omega)
    rcases hA u q with q | q
    · exact hn u (by simp [Env.E.pre, hu.1]) q
    · exact q
/-! ### data of tuples -/
mutual
def noL : PyData → Bool
  | .none => true
  | .bool _ => true
  | .int _ => true
  | .str _ => true
  | .list _ => false
  | .tuple ds => noLs ds
  | .dict _ => false
def noLs : List PyData → Bool
  | [] => true
  | d :: ds => noL d && noLs ds
end
mutual
theorem Dp.extT {K : PySem.W.Frag} {ms : List Addr} {H H' : Hp} (x : Ext ms H H') : ∀ (d : PyData) (v : V), noL d = true → Dp K H v d → Dp K H' v d
  | .none, _, _, h => by cases h; exact .non
  | .bool b, _, _, h => by cases h; exact .bl b
  | .int i, _, _, h => by cases h; exact .int i
  | .str z, _, _, h => by cases h; exact .str z
  | .list ds, _, n, _ => by simp [noL] at n
  | .tuple ds, _, n, h => by
    cases h with
    | tup a b => exact .tup (x.seqT a) (DpAll.extT x ds _ (by simpa [noL] using n) b)
  | .dict _, _, _, h => by cases h
theorem DpAll.extT {K : PySem.W.Frag} {ms : List Addr} {H H' : Hp} (x : Ext ms H H') : ∀ (ds : List PyData) (vs : List V), noLs ds = true → DpAll K H vs ds → DpAll K H' vs ds
  | [], _, _, h => by cases h; exact .nil
  | d :: ds, _, n, h => by
    simp [noLs] at n
    cases h with
    | cons a b => exact .cons (Dp.extT x d _ n.1 a) (DpAll.extT x ds _ n.2 b)
end
theorem noLs_map {α : Type} (f : α → PyData) (h : ∀ a, noL (f a) = true) : ∀ l : List α, noLs (l.map f) = true
  | [] => by simp [noLs]
  | a :: l => by simp [noLs, h a, noLs_map f h l]
theorem srcD_noL (l : Lay) (s : Int) : noL (srcD l s) = true := by
  unfold srcD
  split <;> simp [noL, noLs]
theorem cut_noL (l : Lay) (U : Int → List Int) : ∀ e : E, noL (e.cut l U) = true
  | .num _ => by simp [Env.E.cut, noL, noLs]
  | .nam s => srcD_noL l s
  | .plus a b => by simp [Env.E.cut, noL, noLs, cut_noL l U a, cut_noL l U b]
  | .elet s a b => by simp [Env.E.cut, noL, noLs, cut_noL l U a, cut_noL l U b]
  | .efun s _ => by simp [Env.E.cut, noL, noLs, noLs_map (srcD l) (srcD_noL l)]
  | .call a b => by simp [Env.E.cut, noL, noLs, cut_noL l U a, cut_noL l U b]
  | .eif a b c => by simp [Env.E.cut, noL, noLs, cut_noL l U a, cut_noL l U b, cut_noL l U c]
theorem idx_first (s : Int) : ∀ l : List Int, s ∈ l → (l.map V.int)[l.idxOf s]? = some (.int s) ∧ ∀ (m : Nat) (z : V), m < l.idxOf s → (l.map V.int)[m]? = some z → eqV z (.int s) = false
  | [], h => nomatch h
  | a :: l, h => by
    by_cases e : a = s
    · subst e
      have : (a :: l).idxOf a = 0 := by simp [List.idxOf_cons]
      rw [this]
      exact ⟨rfl, fun m z hm => absurd hm (Nat.not_lt_zero m)⟩
    · have hm : s ∈ l := (List.mem_cons.mp h).resolve_left (Ne.symm e)
      obtain ⟨h1, h2⟩ := idx_first s l hm
      have e2 : (a :: l).idxOf s = l.idxOf s + 1 := by
        rw [List.idxOf_cons]
        have : (a == s) = false := beq_eq_false_iff_ne.mpr e
        simp [this]
      rw [e2]
      refine ⟨by simpa using h1, fun m z hlt hz => ?_⟩
      match m, hz with
      | 0, hz =>
        cases hz
        show (a == s) = false
        exact beq_eq_false_iff_ne.mpr e
      | m + 1, hz => exact h2 m z (by omega) (by simpa using hz)
theorem E.cut_head {l : Lay} {U : Int → List Int} : ∀ {e : E}, e.isHead = true → e.cut l U = .tuple (.str e.word :: e.kids.map (E.cut l U))
  | .plus _ _, _ => rfl
  | .call _ _, _ => rfl
  | .eif _ _ _, _ => rfl
  | .num _, h => nomatch h
  | .nam _, h => nomatch h
  | .elet _ _ _, h => nomatch h
  | .efun _ _, h => nomatch h
theorem E.cutOk_head {l : Lay} {U : Int → List Int} {ls : List (Leaf × Lay)} : ∀ {e : E}, e.isHead = true → e.cutOk l U ls → ∀ c ∈ e.kids, c.cutOk l U ls
  | .plus a b, _, ⟨ha, hb⟩, c, hc => by
    rcases List.mem_cons.mp hc with rfl | hc
    · exact ha
    · rw [List.mem_singleton.mp hc]; exact hb
  | .call a b, _, ⟨ha, hb⟩, c, hc => by
    rcases List.mem_cons.mp hc with rfl | hc
    · exact ha
    · rw [List.mem_singleton.mp hc]; exact hb
  | .eif a b d, _, ⟨ha, hb, hd⟩, c, hc => by
    rcases List.mem_cons.mp hc with rfl | hc
    · exact ha
    · rcases List.mem_cons.mp hc with rfl | hc
      · exact hb
      · rw [List.mem_singleton.mp hc]; exact hd
  | .num _, h, _, _, _ => nomatch h
  | .nam _, h, _, _, _ => nomatch h
  | .elet _ _ _, h, _, _, _ => nomatch h
  | .efun _ _, h, _, _, _ => nomatch h
theorem wd_num_num : decide (V.str "num" = V.str "num") = true := by decide +kernel
theorem wd_name_num : decide (V.str "name" = V.str "num") = false := by decide +kernel
theorem wd_plus_num : decide (V.str "plus" = V.str "num") = false := by decide +kernel
theorem wd_let_num : decide (V.str "let" = V.str "num") = false := by decide +kernel
theorem wd_fun_num : decide (V.str "fun" = V.str "num") = false := by decide +kernel
theorem wd_call_num : decide (V.str "call" = V.str "num") = false := by decide +kernel
theorem wd_if_num : decide (V.str "if" = V.str "num") = false := by decide +kernel
end Env
end
section
set_option Elab.async false
set_option linter.all false
set_option maxRecDepth 100000
set_option maxHeartbeats 4000000
namespace Env
open PySem L2
local macro_rules | `(tactic| walk_at "side") => `(tactic| first
  | assumption
  | ((try dsimp only); omega)
  | decide
  | exact ⟨by omega, by omega⟩
  | exact .inr ⟨by decide, by decide⟩
  | exact .inl ⟨by omega, by omega⟩)
local macro_rules | `(tactic| walk_at "rd1") => `(tactic| first
  | with_reducible refine Exists.intro _ (And.intro rfl ?_)
  | refine Exists.intro _ (And.intro rfl ?_)
  | refine ⟨_, _, rfl, rfl, ?_⟩
  | refine And.intro rfl ?_
  | refine ⟨_, _, _, _, rfl, rfl, SqL.of (by assumption), rfl, ?_⟩
  | refine ⟨_, _, _, _, rfl, rfl, SqL.of upd_same, rfl, ?_⟩
  | refine And.intro (szb rfl) ?_
  | refine And.intro (Or.inl (And.intro rfl (Exists.intro _ (SqL.of (by assumption))))) ?_
  | refine Or.inl (Exists.intro _ (And.intro rfl ?_))
  | refine Or.inr (Exists.intro _ (And.intro rfl ?_))
  | refine And.intro (by walk_at "side") ?_
  | refine ⟨_, _, _, _, rfl, rfl, (by assumption), rfl, ?_⟩
  | refine ⟨_, _, _, _, rfl, rfl, upd_same, rfl, ?_⟩
  | refine ⟨_, _, rfl, .inl (SqL.of (by assumption)), ?_⟩
  | refine ⟨_, _, rfl, .inl (SqL.of upd_same), ?_⟩
  | refine ⟨_, _, rfl, .inl (by assumption), ?_⟩)
local macro_rules | `(tactic| walk_at "rd") => `(tactic| repeat walk_at "rd1")
local macro_rules | `(tactic| walk_at "ds") => `(tactic| dsimp only [tNil, tCons, tC, tNoPart, tPart, tCB, tOp, tTest, tB, tCall, List.nil_append, List.cons_append, List.append_nil])
local macro_rules | `(tactic| walk_at "tup") => `(tactic| (intro t nt))

section
variable {P : Program} {w : World} {K : PySem.W.Frag} {mg : Str → Option Value} {base : Heap}
def spSrc (K : PySem.W.Frag) (C : Addr) : Sp := fun vs H Q _ => ∃ (s : Int) (p : Addr) (l : Lay) (H0 : Hp), vs = [.int s, .ref p] ∧ LayAt K C H0 H p l ∧ (s ∈ l.sites ∨ s ∈ l.used) ∧
  ∀ (u : V) (H' : Hp), Ext [] H H' → Dp K H' u (srcD l s) → Q u H'
theorem ok_source_of (T : Tp K w mg) : FnOk P w K mg base CX0 1 T.source_of.f T.source_of.d P_source_of (spSrc K T.C_Layout) := by
  refine T.source_of.F.ok sc_source_of (fun vs H Q E h => ?_) (fun cdv A outer s' H vs Q X hr hsp => ?_)
  · obtain ⟨s, p, l, H0, rfl, _⟩ := h
    rfl
  obtain ⟨s, p, l, H0, rfl, la, hm, q⟩ := hsp
  refine ⟨_, (pss_cons (ps_if (pt_cmpR (inS (K := K) rfl) (pv 0) (pe_fldK (K := K) rfl (pv 1) rfl) (by rfl)) (pss_one (ps_ret (pe_tup (pa_cons pe_str (pa_cons (pv 0) pa_nil))))) pss_nil)
    (pss_one (ps_ret (pe_tup (pa_cons pe_str (pa_cons (pe_bmK (K := K) rfl PySem.F.plainAttrs_list PySem.F.slot_list_index PySem.F.type_list_index (mtIx (K := K) rfl) (pe_fldK (K := K) rfl (pv 1) rfl) (pa_cons (pv 0) pa_nil)) pa_nil)))))), ?_⟩
  obtain ⟨dx, bv, ul, sl, hl, _, q1, q2, q3, q4, q5⟩ := la
  walk_at "rd"
  refine ⟨_, _, _, _, _, rfl, q1, T.c_Layout, T.n_Layout_sites, rfl, ?_⟩
  refine ⟨sl, _, rfl, .inl (SqL.of q4), rfl, flat_ints _, ?_⟩
  rw [if_neg (by decide), inV_int]
  walk_at "rd"
  refine ite2 (fun c => ?_) (fun c => ?_)
  · have c' : l.sites.contains s = true := c
    walk_at "rd"
    intro t nt
    refine q _ _ (Ext.new nt) ?_
    unfold srcD
    rw [if_pos c']
    exact .tup (SqT.of upd_same) (.cons (.str _) (.cons (.int _) .nil))
  · have c' : ¬ l.sites.contains s = true := c
    have hu : s ∈ l.used := hm.resolve_left fun z => c' (List.contains_iff_mem.mpr z)
    obtain ⟨i1, i2⟩ := idx_first s _ hu
    walk_at "rd"
    refine ⟨_, _, _, _, _, rfl, q1, T.c_Layout, T.n_Layout_used, rfl, ?_⟩
    walk_at "rd"
    refine ⟨ul, _, .int s, l.used.idxOf s, .int s, rfl, rfl, SqL.of q3, rfl, flat_ints _, i1, ?_, i2, ?_⟩
    · show (s == s) = true
      exact beq_self_eq_true s
    · walk_at "rd"
      intro t nt
      refine q _ _ (Ext.new nt) ?_
      unfold srcD
      rw [if_neg c']
      exact .tup (SqT.of upd_same) (.cons (.str _) (.cons (.int _) .nil))
/-- the sources of a fun, as values -/
def spCut (P : Program) (w : World) (K : PySem.W.Frag) (C : Addr) (d : Nat) : Sp := fun vs H Q _ => ∃ (v : V) (e : E) (lp dp : Addr) (l : Lay) (H0 : Hp) (kvs : List (Leaf × V)) (ls : List (Leaf × Lay)) (U : Int → List Int), vs = [v, .ref lp, .ref dp] ∧ TE K H v e ∧ e.hgt ≤ d ∧
  LayAt K C H0 H lp l ∧ IsLD P w H dp kvs ∧ LaysAt K C H0 H kvs ls ∧ (ls.map (·.1)).Nodup ∧ (∀ p ∈ ls, p.2.used.length ≤ 100) ∧ e.cutOk l U ls ∧ ∀ (u : V) (H' : Hp), Ext [] H H' → Dp K H' u (e.cut l U) → Q u H'
theorem LaysAt.get {K : PySem.W.Frag} {C : Addr} {H0 H : Hp} : ∀ {kvs : List (Leaf × V)} {ls : List (Leaf × Lay)} {k : Leaf} {y : Lay}, LaysAt K C H0 H kvs ls → (ls.map (·.1)).Nodup → (k, y) ∈ ls → ∃ p, valV kvs k = some (.ref p) ∧ LayAt K C H0 H p y
  | [], [], _, _, _, _, h => nomatch h
  | kv :: r, l :: m, k, y, ⟨⟨a, p, b, c⟩, d⟩, hn, h => by
    obtain ⟨n1, n2⟩ := List.nodup_cons.mp hn
    rcases List.mem_cons.mp h with e | h
    · subst e
      exact ⟨p, by rw [valV_pos a, b], c⟩
    · obtain ⟨p', h1, h2⟩ := LaysAt.get d n2 h
      refine ⟨p', ?_, h2⟩
      rw [valV_neg fun z => n1 ?_]
      · exact h1
      · show l.1 ∈ m.map (·.1)
        rw [← a, z]; exact List.mem_map.mpr ⟨_, h, rfl⟩
  | [], _ :: _, _, _, h, _, _ => h.elim
  | _ :: _, [], _, _, h, _, _ => h.elim
theorem ok_cut_step (T : Tp K w mg) (n : Nat) (G_cut : FnOk P w K mg base CX0 (n + 2) T.cut.f T.cut.d P_cut (spCut P w K T.C_Layout n)) :
    FnOk P w K mg base CX0 (n + 3) T.cut.f T.cut.d P_cut (spCut P w K T.C_Layout (n + 1)) := by
  refine T.cut.F.ok sc_cut (fun vs H Q E h => ?_) (fun cdv A outer s' H vs Q X hr hsp => ?_)
  · obtain ⟨v, e, lp, dp, l, H0, kvs, ls, U, rfl, _⟩ := h
    rfl
  obtain ⟨v, e, lp, dp, l, H0, kvs, ls, U, rfl, te, eh, la, hd, lsa, nd, us, ok, q⟩ := hsp
  refine ⟨_, (pss_one (ps_match (pv 0) (pcs_word (K := K) rfl rfl sc_cut.nd (.cons (i := 3) rfl (Or.inl rfl) (Or.inr rfl) .nil) (pss_one (ps_ret (pe_tup (pa_cons pe_str (pa_cons (pv 3) pa_nil)))))
      (pcs_word (K := K) rfl rfl sc_cut.nd (.cons (i := 4) rfl (Or.inl rfl) (Or.inr rfl) .nil) (pss_one (ps_ret (pe_cl T.source_of (ok_source_of T) hr (by first | decide | omega) (by rfl) (pa_cons (pv 4) (pa_cons (pv 1) pa_nil)))))
      (pcs_word (K := K) rfl rfl sc_cut.nd (.cons (i := 4) rfl (Or.inl rfl) (Or.inr rfl) (.cons (i := 5) rfl (Or.inl rfl) (Or.inr rfl) (.cons (i := 6) rfl (Or.inl rfl) (Or.inr rfl) .nil))) (pss_one (ps_ret (pe_tup (pa_cons pe_str (pa_cons (pv 4) (pa_cons (pe_cl T.cut (G_cut) hr (by first | decide | omega) (by rfl) (pa_cons (pv 5) (pa_cons (pv 1) (pa_cons (pv 2) pa_nil)))) (pa_cons (pe_cl T.cut (G_cut) hr (by first | decide | omega) (by rfl) (pa_cons (pv 6) (pa_cons (pv 1) (pa_cons (pv 2) pa_nil)))) pa_nil)))))))
      (pcs_wordW (K := K) rfl rfl sc_cut.nd (.cons (i := 4) rfl (Or.inl rfl) (Or.inr rfl) (.wild .nil)) (pss_one (ps_ret (pe_tup (pa_cons pe_str (pa_cons (pv 4) (pa_cons (pe_callTy (T := "tuple") call_tuple_of (by rfl) T.B.b_tuple (by decide +kernel) (pa_cons (pe_lc (own := [("used", 7)]) (g := gName 7) (tt := tYes) (by rfl) sc_cut.nd (piL (K := K) rfl (pe_fldK (K := K) rfl (pe_lget (P := P) (w := w) rfl rfl (pv 2) (pv 4) (fun _ _ => rfl)) rfl)) (blkOk_by (N := N_cut) (sc := defScope s_cut) (by decide +kernel)) (fun _ _ _ _ _ => (pg_name (i := 7) sc_cut.nd rfl (Or.inl rfl))) (fun _ _ _ _ _ => pts_nil) (fun _ _ _ _ _ => (pe_cl T.source_of (ok_source_of T) hr (by first | decide | omega) (by rfl) (pa_cons (pv 7) (pa_cons (pv 1) pa_nil))))) pa_nil)) pa_nil))))))
      (pcs_head (K := K) rfl rfl sc_cut.nd (.cons (i := 8) rfl (Or.inl rfl) (Or.inr rfl) (.cons (i := 9) rfl (Or.inl rfl) (Or.inr rfl) .nil)) (pss_one (ps_ret (pe_tup (pa_cons (pv 8) (pa_starK (K := K) rfl (pe_lc (own := [("each", 10)]) (g := gName 10) (tt := tYes) (by rfl) sc_cut.nd (piL (K := K) rfl (pv 9)) (blkOk_by (N := N_cut) (sc := defScope s_cut) (by decide +kernel)) (fun _ _ _ _ _ => (pg_name (i := 10) sc_cut.nd rfl (Or.inl rfl))) (fun _ _ _ _ _ => pts_nil) (fun _ _ _ _ _ => (pe_cl T.cut (G_cut) hr (by first | decide | omega) (by rfl) (pa_cons (pv 10) (pa_cons (pv 1) (pa_cons (pv 2) pa_nil)))))) pa_nil)))))))))))), ?_⟩
  walk_at "rd"
  by_cases hh : e.isHead = true
  · obtain ⟨w1, w2, w3, w4⟩ := E.head_words hh
    obtain ⟨p, vs, rfl, hp, hi⟩ := te.node
    have hl := hi.len
    have hvs := hi.heads hh
    have hvl := hvs.len
    obtain ⟨_, _, z3⟩ := E.head_size hh
    have hlen : vs.length ≤ 100 := by omega
    refine ⟨p, _, vs, rfl, hp, hlen, fun c => absurd c.1 w2, fun _ => ?_⟩
    refine ⟨p, _, vs, rfl, hp, hlen, fun c => absurd c.1 w1, fun _ => ?_⟩
    refine ⟨p, _, vs, rfl, hp, hlen, fun c => absurd c.1 w3, fun _ => ?_⟩
    refine ⟨p, _, vs, rfl, hp, hlen, fun c => absurd c.1 w4, fun _ => ?_⟩
    refine ⟨p, _, vs, rfl, hp, hlen, fun L nL => ?_⟩
    have x3 := Ext.new (ms := []) (o := .lst vs) nL
    have hL : upd H L (.lst vs) L = some (.lst vs) := upd_same
    generalize upd H L (.lst vs) = H3 at x3 hL ⊢
    have hvs3 := hvs.ext x3
    walk_at "rd"
    refine ⟨⟨_, SqL.of hL⟩, fun D nD => ?_⟩
    have nLD : L ≠ D := fun z => by rw [z, nD] at hL; cases hL
    refine lc_list (K := K) (a := L) (xs := vs) (fun i H' => ∃ ws, Ext [] H3 H' ∧ H' L = some (.lst vs) ∧ H' D = some (.lst ws) ∧ DpAll K H' ws ((e.kids.take i).map (E.cut l U)) ∧ ws.length ≤ i)
      ⟨[], Ext.new nD, by rw [upd_ne nLD]; exact hL, upd_same, .nil, Nat.le_refl _⟩ (fun i H' _ ⟨_, _, h, _⟩ => SqL.of h) ?_ ?_
    · rintro i y H4 hy ⟨ws, g1, g2, g3, g4, g5⟩
      obtain ⟨c, hc, tc⟩ := (hvs3.ext g1).at hy
      have hcm := List.mem_of_getElem? hc
      have iv := (List.getElem?_eq_some_iff.mp hy).1
      have x4 := x3.trans g1
      refine ⟨rfl, ?_⟩
      walk_at "rd"
      refine ⟨y, c, lp, dp, l, H0, kvs, ls, U, rfl, tc, E.its_hgt eh (kids_mem hcm), la.ext x4, hd.ext x4, lsa.ext x4, nd, us, E.cutOk_head hh ok c hcm, fun u H5 x5 du => ?_⟩
      have hD5 := x5.lst (fun z => nomatch z) g3
      refine ⟨ws, hD5, small1000 (by omega), ws ++ [u], (g1.trans x5).mut nD, by rw [upd_ne nLD]; exact x5.lst (fun z => nomatch z) g2, upd_same, ?_, by rw [List.length_append]; exact Nat.succ_le_succ g5⟩
      rw [List.take_succ, hc]
      refine DpAll.extT (Ext.put hD5 (List.mem_singleton.mpr rfl)) _ _ (noLs_map _ (cut_noL l U) _) ?_
      rw [List.map_append]
      exact DpAll.snoc du (DpAll.ext x5 _ _ g4)
    · rintro H4 ⟨ws, g1, g2, g3, g4, g5⟩
      rw [hvl, List.take_length] at g4
      walk_at "rd"
      refine ⟨D, ws, rfl, .inr (SqL.of g3), ?_⟩
      walk_at "ds"
      rw [List.append_nil]
      refine ⟨Nat.le_of_lt (small1000 (by rw [List.length_cons]; omega)), fun t nt => ?_⟩
      have x7 := Ext.new (ms := []) (o := .tup (.str e.word :: ws)) nt
      refine q _ _ ((x3.trans g1).trans x7) ?_
      rw [E.cut_head hh]
      exact .tup (SqT.of upd_same) (.cons (.str _) (DpAll.ext x7 _ _ g4))
  cases e with
  | num k =>
    obtain ⟨p, rfl, hp⟩ := te
    refine ⟨p, _, [.int k], rfl, hp, Nat.le_of_ble_eq_true rfl, fun _ => ?_, fun c => absurd ⟨rfl, rfl⟩ c⟩
    walk_at "rd"
    intro t nt
    exact q _ _ (Ext.new nt) (.tup (SqT.of upd_same) (.cons (.str _) (.cons (.int _) .nil)))
  | nam s =>
    obtain ⟨p, rfl, hp⟩ := te
    refine ⟨p, _, [.int s], rfl, hp, Nat.le_of_ble_eq_true rfl, fun c => absurd c.1 (by decide +kernel), fun _ => ?_⟩
    refine ⟨p, _, [.int s], rfl, hp, Nat.le_of_ble_eq_true rfl, fun _ => ?_, fun c => absurd ⟨rfl, rfl⟩ c⟩
    walk_at "rd"
    exact ⟨s, lp, l, H0, rfl, la, ok, fun u H' x d => q u H' x d⟩
  | elet s e1 e2 =>
    simp only [Env.E.hgt] at eh
    obtain ⟨p, v1, v2, rfl, hp, t1, t2⟩ := te
    refine ⟨p, _, [.int s, v1, v2], rfl, hp, Nat.le_of_ble_eq_true rfl, fun c => absurd c.1 (by decide +kernel), fun _ => ?_⟩
    refine ⟨p, _, [.int s, v1, v2], rfl, hp, Nat.le_of_ble_eq_true rfl, fun c => absurd c.1 (by decide +kernel), fun _ => ?_⟩
    refine ⟨p, _, [.int s, v1, v2], rfl, hp, Nat.le_of_ble_eq_true rfl, fun _ => ?_, fun c => absurd ⟨rfl, rfl⟩ c⟩
    walk_at "rd"
    refine ⟨v1, e1, lp, dp, l, H0, kvs, ls, U, rfl, t1, by omega, la, hd, lsa, nd, us, ok.1, fun u1 H1 x1 d1 => ?_⟩
    walk_at "rd"
    refine ⟨v2, e2, lp, dp, l, H0, kvs, ls, U, rfl, TE.ext x1 t2, by omega, la.ext x1, hd.ext x1, lsa.ext x1, nd, us, ok.2, fun u2 H2 x2 d2 => ?_⟩
    walk_at "rd"
    intro t nt
    have x3 := Ext.new (ms := []) (o := .tup [.str "let", .int s, u1, u2]) nt
    exact q _ _ ((x1.trans x2).trans x3) (.tup (SqT.of upd_same) (.cons (.str _) (.cons (.int _) (.cons (Dp.ext (x2.trans x3) _ _ d1) (.cons (Dp.ext x3 _ _ d2) .nil)))))
  | efun s b =>
    obtain ⟨p, v1, rfl, hp, t1⟩ := te
    refine ⟨p, _, [.int s, v1], rfl, hp, Nat.le_of_ble_eq_true rfl, fun c => absurd c.1 (by decide +kernel), fun _ => ?_⟩
    refine ⟨p, _, [.int s, v1], rfl, hp, Nat.le_of_ble_eq_true rfl, fun c => absurd c.1 (by decide +kernel), fun _ => ?_⟩
    refine ⟨p, _, [.int s, v1], rfl, hp, Nat.le_of_ble_eq_true rfl, fun c => absurd c.1 (by decide +kernel), fun _ => ?_⟩
    refine ⟨p, _, [.int s, v1], rfl, hp, Nat.le_of_ble_eq_true rfl, fun _ => ?_, fun c => absurd ⟨rfl, rfl⟩ c⟩
    obtain ⟨hu, y, hy, yu⟩ := ok
    obtain ⟨fp, hv, lay⟩ := lsa.get nd hy
    obtain ⟨dx, bv, ul, sl, hl, _, q1, q2, q3, q4, q5⟩ := lay
    rw [yu] at q3
    have ulen := us _ hy
    rw [show ((Leaf.num s, y) : Leaf × Lay).2.used = y.used from rfl, yu] at ulen
    walk_at "rd"
    refine ⟨dp, kvs, .num s, _, rfl, hd, rfl, hv, ?_⟩
    refine ⟨_, _, _, _, _, rfl, q1, T.c_Layout, T.n_Layout_used, rfl, ?_⟩
    refine ⟨ul, rfl, ⟨_, SqL.of q3⟩, fun D nD => ?_⟩
    have nLD : ul ≠ D := fun z => by rw [z, nD] at q3; cases q3
    refine lc_list (K := K) (a := ul) (xs := (U s).map V.int) (fun i H' => ∃ ws, Ext [] H H' ∧ H' ul = some (.lst ((U s).map V.int)) ∧ H' D = some (.lst ws) ∧ DpAll K H' ws (((U s).take i).map (srcD l)) ∧ ws.length ≤ i)
      ⟨[], Ext.new nD, by rw [upd_ne nLD]; exact q3, upd_same, .nil, Nat.le_refl _⟩ (fun i H' _ ⟨_, _, h, _⟩ => SqL.of h) ?_ ?_
    · rintro i z H4 hz ⟨ws, g1, g2, g3, g4, g5⟩
      rw [List.getElem?_map] at hz
      obtain ⟨k, hk, rfl⟩ := Option.map_eq_some_iff.mp hz
      have ik := (List.getElem?_eq_some_iff.mp hk).1
      refine ⟨rfl, ?_⟩
      walk_at "rd"
      refine ⟨k, lp, l, H0, rfl, la.ext g1, hu k (List.mem_of_getElem? hk), fun u H5 x5 du => ?_⟩
      have hD5 := x5.lst (fun z => nomatch z) g3
      refine ⟨ws, hD5, small1000 (by omega), ws ++ [u], (g1.trans x5).mut nD, by rw [upd_ne nLD]; exact x5.lst (fun z => nomatch z) g2, upd_same, ?_, by rw [List.length_append]; exact Nat.succ_le_succ g5⟩
      rw [List.take_succ, hk]
      refine DpAll.extT (Ext.put hD5 (List.mem_singleton.mpr rfl)) _ _ (noLs_map _ (srcD_noL l) _) ?_
      rw [List.map_append]
      exact DpAll.snoc du (DpAll.ext x5 _ _ g4)
    · rintro H4 ⟨ws, g1, g2, g3, g4, g5⟩
      rw [List.length_map, List.take_length] at g4
      walk_at "rd"
      refine ⟨D, ws, rfl, .inl ⟨SqL.of g3, fun t nt => ?_⟩⟩
      have x6 := Ext.new (ms := []) (o := .tup ws) nt
      have ht : upd H4 t (.tup ws) t = some (.tup ws) := upd_same
      generalize upd H4 t (.tup ws) = H5 at x6 ht ⊢
      walk_at "rd"
      intro t2 nt2
      have x7 := Ext.new (ms := []) (o := .tup [.str "make", .int s, .ref t]) nt2
      exact q _ _ ((g1.trans x6).trans x7) (.tup (SqT.of upd_same) (.cons (.str _) (.cons (.int _) (.cons (.tup (SqT.of (x7.tup ht)) (DpAll.ext (x6.trans x7) _ _ g4)) .nil))))
  | plus e1 e2 => exact absurd rfl hh
  | call e1 e2 => exact absurd rfl hh
  | eif e1 e2 e3 => exact absurd rfl hh
theorem ok_cut (T : Tp K w mg) : ∀ d : Nat, FnOk P w K mg base CX0 (d + 2) T.cut.f T.cut.d P_cut (spCut P w K T.C_Layout d)
  | 0 => (fn_never 2).imp fun vs H Q E ⟨v, e, _, _, _, _, _, _, _, _, _, h, _⟩ => by cases e <;> simp [Env.E.hgt] at h
  | n + 1 => ok_cut_step T n (ok_cut T n)
end
end Env
end
section
set_option Elab.async false
set_option linter.all false
set_option maxRecDepth 100000
set_option maxHeartbeats 4000000
namespace Env
open PySem L2
theorem E.self_pre (e : E) : e ∈ e.pre := by cases e <;> simp [Env.E.pre]
theorem E.pre_trans : ∀ {e c d : E}, c ∈ e.pre → d ∈ c.pre → d ∈ e.pre
  | .num _, c, d, h, g => by simp [Env.E.pre] at h; subst h; exact g
  | .nam _, c, d, h, g => by simp [Env.E.pre] at h; subst h; exact g
  | .plus a b, c, d, h, g => by
    simp only [Env.E.pre, List.mem_cons, List.mem_append] at h
    rcases h with rfl | h | h
    · exact g
    · simp only [Env.E.pre, List.mem_cons, List.mem_append]; exact .inr (.inl (a.pre_trans h g))
    · simp only [Env.E.pre, List.mem_cons, List.mem_append]; exact .inr (.inr (b.pre_trans h g))
  | .call a b, c, d, h, g => by
    simp only [Env.E.pre, List.mem_cons, List.mem_append] at h
    rcases h with rfl | h | h
    · exact g
    · simp only [Env.E.pre, List.mem_cons, List.mem_append]; exact .inr (.inl (a.pre_trans h g))
    · simp only [Env.E.pre, List.mem_cons, List.mem_append]; exact .inr (.inr (b.pre_trans h g))
  | .elet _ a b, c, d, h, g => by
    simp only [Env.E.pre, List.mem_cons, List.mem_append] at h
    rcases h with rfl | h | h
    · exact g
    · simp only [Env.E.pre, List.mem_cons, List.mem_append]; exact .inr (.inl (a.pre_trans h g))
    · simp only [Env.E.pre, List.mem_cons, List.mem_append]; exact .inr (.inr (b.pre_trans h g))
  | .efun _ a, c, d, h, g => by
    simp only [Env.E.pre, List.mem_cons] at h
    rcases h with rfl | h
    · exact g
    · simp only [Env.E.pre, List.mem_cons]; exact .inr (a.pre_trans h g)
  | .eif a b x, c, d, h, g => by
    simp only [Env.E.pre, List.mem_cons, List.mem_append] at h
    rcases h with rfl | (h | h) | h
    · exact g
    · simp only [Env.E.pre, List.mem_cons, List.mem_append]; exact .inr (.inl (.inl (a.pre_trans h g)))
    · simp only [Env.E.pre, List.mem_cons, List.mem_append]; exact .inr (.inl (.inr (b.pre_trans h g)))
    · simp only [Env.E.pre, List.mem_cons, List.mem_append]; exact .inr (.inr (x.pre_trans h g))
theorem laysOf_mem {p : Int × Lay} : ∀ {l : List E}, p ∈ laysOf l ↔ ∃ c, E.efun p.1 c ∈ l ∧ p.2 = mkLay (some p.1) c
  | [] => by simp [laysOf]
  | .efun n b :: r => by
    have q := @laysOf_mem p r
    show p ∈ (n, mkLay (some n) b) :: laysOf r ↔ _
    rw [List.mem_cons, q]
    constructor
    · rintro (rfl | ⟨c, h, e⟩)
      · exact ⟨b, List.mem_cons_self, rfl⟩
      · exact ⟨c, List.mem_cons_of_mem _ h, e⟩
    · rintro ⟨c, h, e⟩
      rcases List.mem_cons.mp h with z | h
      · obtain ⟨z1, z2⟩ := E.efun.inj z
        left
        subst z2
        rw [← z1, ← e]
      · exact .inr ⟨c, h, e⟩
  | .num _ :: r => by
    have q := @laysOf_mem p r
    show p ∈ laysOf r ↔ _
    rw [q]
    exact ⟨fun ⟨c, h, e⟩ => ⟨c, List.mem_cons_of_mem _ h, e⟩, fun ⟨c, h, e⟩ => ⟨c, (List.mem_cons.mp h).resolve_left (fun z => nomatch z), e⟩⟩
  | .nam _ :: r => by
    have q := @laysOf_mem p r
    show p ∈ laysOf r ↔ _
    rw [q]
    exact ⟨fun ⟨c, h, e⟩ => ⟨c, List.mem_cons_of_mem _ h, e⟩, fun ⟨c, h, e⟩ => ⟨c, (List.mem_cons.mp h).resolve_left (fun z => nomatch z), e⟩⟩
  | .plus _ _ :: r => by
    have q := @laysOf_mem p r
    show p ∈ laysOf r ↔ _
    rw [q]
    exact ⟨fun ⟨c, h, e⟩ => ⟨c, List.mem_cons_of_mem _ h, e⟩, fun ⟨c, h, e⟩ => ⟨c, (List.mem_cons.mp h).resolve_left (fun z => nomatch z), e⟩⟩
  | .elet _ _ _ :: r => by
    have q := @laysOf_mem p r
    show p ∈ laysOf r ↔ _
    rw [q]
    exact ⟨fun ⟨c, h, e⟩ => ⟨c, List.mem_cons_of_mem _ h, e⟩, fun ⟨c, h, e⟩ => ⟨c, (List.mem_cons.mp h).resolve_left (fun z => nomatch z), e⟩⟩
  | .call _ _ :: r => by
    have q := @laysOf_mem p r
    show p ∈ laysOf r ↔ _
    rw [q]
    exact ⟨fun ⟨c, h, e⟩ => ⟨c, List.mem_cons_of_mem _ h, e⟩, fun ⟨c, h, e⟩ => ⟨c, (List.mem_cons.mp h).resolve_left (fun z => nomatch z), e⟩⟩
  | .eif _ _ _ :: r => by
    have q := @laysOf_mem p r
    show p ∈ laysOf r ↔ _
    rw [q]
    exact ⟨fun ⟨c, h, e⟩ => ⟨c, List.mem_cons_of_mem _ h, e⟩, fun ⟨c, h, e⟩ => ⟨c, (List.mem_cons.mp h).resolve_left (fun z => nomatch z), e⟩⟩
/-- what the fun at s uses from outside -/
def usesOf (t : E) (s : Int) : List Int := match (laysOf t.pre).find? fun p => decide (p.1 = s) with
  | some p => p.2.used
  | none => []
theorem find_key {α : Type} {s : Int} : ∀ {l : List (Int × α)} {y : α}, (l.map (·.1)).Pairwise (· < ·) → (s, y) ∈ l → l.find? (fun p => decide (p.1 = s)) = some (s, y)
  | [], _, _, h => nomatch h
  | p :: l, y, hw, h => by
    obtain ⟨w1, w2⟩ := List.pairwise_cons.mp hw
    rcases List.mem_cons.mp h with rfl | h
    · rw [List.find?_cons_of_pos (by simp)]
    · have : ¬ p.1 = s := fun z => by have : p.1 < s := w1 s (List.mem_map.mpr ⟨_, h, rfl⟩); omega
      rw [List.find?_cons_of_neg (by simpa using this)]
      exact find_key w2 h
theorem usesOf_fun {t c : E} {s : Int} (hw : ((laysOf t.pre).map (·.1)).Pairwise (· < ·)) (h : E.efun s c ∈ t.pre) : usesOf t s = srt (E.low s c.pre) := by
  unfold usesOf
  rw [find_key (y := mkLay (some s) c) hw (laysOf_mem.mpr ⟨c, h, rfl⟩)]
  rfl
def oD : Option Int → PyData
  | none => .none
  | some n => .int n
def pieceD (t : E) (l : Lay) : PyData := .tuple [oD l.site, .tuple (l.used.map .int), l.body.cut l (usesOf t)]
def piecesD (t : E) : List PyData := t.lays.map fun p => pieceD t p.2
/-- a marked program -/
structure Prog (t : E) : Prop where
  wf : t.wf 0 fun _ => False
  rise : ((laysOf t.pre).map (·.1)).Pairwise (· < ·)
theorem prog_mk {e : E} (h : e.ok fun _ => False) : Prog (e.mk 0 fun _ => 0) := by
  refine ⟨e.mk_wf 0 _ _ _ h fun _ z => z.elim, ?_⟩
  have hrise := (e.uses_rise 0 fun _ => none).1
  rw [← E.funs_uses e 0 _ _ (fun _ => False) h fun _ z => z.elim, ← laysOf_funs, List.map_map] at hrise
  exact hrise
theorem Prog.nodup {t : E} (h : Prog t) : (t.lays.map (·.1)).Nodup := by
  unfold E.lays
  rw [List.map_cons, List.map_map, List.nodup_cons]
  refine ⟨fun m => ?_, ?_⟩
  · obtain ⟨p, _, e⟩ := List.mem_map.mp m
    cases e
  · have := h.rise
    rw [show ((fun x : Leaf × Lay => x.1) ∘ fun p : Int × Lay => (Leaf.num p.1, p.2)) = Leaf.num ∘ (·.1) from rfl, ← List.map_map]
    refine List.Pairwise.map _ (fun a b hab => ?_) (this.imp fun {a b} hab => hab)
    exact fun z => by have := Leaf.num.inj z; omega
theorem lays_mem {t : E} {k : Leaf} {y : Lay} (h : (k, y) ∈ t.lays) : (k = .none ∧ y = mkLay none t) ∨ ∃ s c, k = .num s ∧ E.efun s c ∈ t.pre ∧ y = mkLay (some s) c := by
  unfold E.lays at h
  rcases List.mem_cons.mp h with e | h
  · cases e; exact .inl ⟨rfl, rfl⟩
  · obtain ⟨p, hp, e⟩ := List.mem_map.mp h
    obtain ⟨c, hc, e2⟩ := laysOf_mem.mp hp
    cases e
    exact .inr ⟨p.1, c, rfl, hc, e2⟩
theorem lays_fun {t c : E} {s : Int} (h : E.efun s c ∈ t.pre) : (Leaf.num s, mkLay (some s) c) ∈ t.lays := by
  unfold E.lays
  exact List.mem_cons_of_mem _ (List.mem_map.mpr ⟨(s, mkLay (some s) c), laysOf_mem.mpr ⟨c, h, rfl⟩, rfl⟩)
theorem low_len (m : Int) : ∀ l : List E, (E.low m l).length ≤ l.length
  | [] => Nat.le_refl 0
  | .nam k :: r => by
    have := low_len m r
    show (if k < m then k :: E.low m r else E.low m r).length ≤ _
    split
    · exact Nat.succ_le_succ this
    · exact Nat.le_succ_of_le this
  | .num _ :: r => Nat.le_succ_of_le (low_len m r)
  | .plus _ _ :: r => Nat.le_succ_of_le (low_len m r)
  | .elet _ _ _ :: r => Nat.le_succ_of_le (low_len m r)
  | .efun _ _ :: r => Nat.le_succ_of_le (low_len m r)
  | .call _ _ :: r => Nat.le_succ_of_le (low_len m r)
  | .eif _ _ _ :: r => Nat.le_succ_of_le (low_len m r)
theorem lays_used {t : E} {p : Leaf × Lay} (h : p ∈ t.lays) (hs : t.size ≤ 60) : p.2.used.length ≤ 60 := by
  rcases lays_mem (k := p.1) (y := p.2) h with ⟨_, e⟩ | ⟨s, c, _, hc, e⟩
  · rw [e]; exact Nat.zero_le _
  · rw [e]
    show (srt (E.low s c.pre)).length ≤ 60
    have h1 := srt_len (E.low s c.pre)
    have h2 := low_len s c.pre
    have h3 := c.pre_len
    have h4 := (t.pre_in _ hc).2
    simp only [Env.E.size] at h4
    omega
theorem lays_body {t : E} {p : Leaf × Lay} (h : p ∈ t.lays) : p.2.body.hgt ≤ t.hgt ∧ p.2.body.size ≤ t.size := by
  rcases lays_mem (k := p.1) (y := p.2) h with ⟨_, e⟩ | ⟨s, c, _, hc, e⟩
  · rw [e]; exact ⟨Nat.le_refl _, Nat.le_refl _⟩
  · rw [e]
    have h4 := t.pre_in _ hc
    simp only [Env.E.size, Env.E.hgt] at h4
    exact ⟨by show c.hgt ≤ _; omega, by show c.size ≤ _; omega⟩
/-- the pieces of a program are in order -/
theorem Prog.cutOk {t : E} (h : Prog t) {p : Leaf × Lay} (hp : p ∈ t.lays) : p.2.body.cutOk p.2 (usesOf t) t.lays := by
  have hU : ∀ b, b ∈ t.pre → ∀ g c, E.efun g c ∈ b.pre → usesOf t g = srt (E.low g c.pre) ∧ ∃ y, (Leaf.num g, y) ∈ t.lays ∧ y.used = usesOf t g := fun b hb g c m => by
    have m' := E.pre_trans hb m
    have q := usesOf_fun h.rise m'
    exact ⟨q, _, lays_fun m', q.symm⟩
  rcases lays_mem (k := p.1) (y := p.2) hp with ⟨_, e⟩ | ⟨s, c, _, hc, e⟩
  · rw [e]
    refine E.cut_ok (f := 0) h.wf (fun _ z => z.elim) (fun _ z => z.elim) (fun s m l => (E.nam_scope h.wf m l).elim) (fun s m => m) (hU t t.self_pre)
  · rw [e]
    obtain ⟨_, _, A', h1, h2⟩ := E.fun_wf h.wf hc
    have hcm : c ∈ t.pre := E.pre_trans hc (by simp [Env.E.pre, c.self_pre])
    refine E.cut_ok (f := s) h1 (fun j z => ?_) (fun j z => ?_) (fun j m l => ?_) (fun j m => List.mem_cons_of_mem _ m) (hU c hcm)
    · rcases z with rfl | z
      · omega
      · have := (h2 j z).resolve_left id; omega
    · rcases z with rfl | z
      · exact .inr (.inl List.mem_cons_self)
      · exact .inl ((h2 j z).resolve_left id).2
    · right
      show j ∈ srt (E.low s c.pre)
      rw [srt_mem, low_mem]
      exact ⟨m, l⟩
theorem dpO {K : PySem.W.Frag} {H : Hp} : ∀ o : Option Int, Dp K H (oV o) (oD o)
  | none => .non
  | some n => .int n
theorem ints_noL : ∀ l : List Int, noLs (l.map PyData.int) = true
  | [] => by simp [noLs]
  | _ :: l => by simp [noLs, noL, ints_noL l]
theorem pieceD_noL (t : E) (l : Lay) : noL (pieceD t l) = true := by
  unfold pieceD
  cases h : l.site <;> simp [noL, noLs, oD, h, ints_noL, cut_noL]
end Env
end
section
set_option Elab.async false
set_option linter.all false
set_option maxRecDepth 100000
set_option maxHeartbeats 4000000
namespace Env
open PySem L2
local macro_rules | `(tactic| walk_at "side") => `(tactic| first
  | assumption
  | ((try dsimp only); omega)
  | decide
  | exact ⟨by omega, by omega⟩
  | exact .inr ⟨by decide, by decide⟩
  | exact .inl ⟨by omega, by omega⟩)
local macro_rules | `(tactic| walk_at "rd1") => `(tactic| first
  | with_reducible refine Exists.intro _ (And.intro rfl ?_)
  | refine Exists.intro _ (And.intro rfl ?_)
  | refine ⟨_, _, rfl, rfl, ?_⟩
  | refine And.intro rfl ?_
  | refine ⟨_, _, _, _, rfl, rfl, SqL.of (by assumption), rfl, ?_⟩
  | refine ⟨_, _, _, _, rfl, rfl, SqL.of upd_same, rfl, ?_⟩
  | refine And.intro (szb rfl) ?_
  | refine And.intro (Or.inl (And.intro rfl (Exists.intro _ (SqL.of (by assumption))))) ?_
  | refine Or.inl (Exists.intro _ (And.intro rfl ?_))
  | refine Or.inr (Exists.intro _ (And.intro rfl ?_))
  | refine And.intro (by walk_at "side") ?_
  | refine ⟨_, _, _, _, rfl, rfl, (by assumption), rfl, ?_⟩
  | refine ⟨_, _, _, _, rfl, rfl, upd_same, rfl, ?_⟩
  | refine ⟨_, _, rfl, .inl (SqL.of (by assumption)), ?_⟩
  | refine ⟨_, _, rfl, .inl (SqL.of upd_same), ?_⟩
  | refine ⟨_, _, rfl, .inl (by assumption), ?_⟩)
local macro_rules | `(tactic| walk_at "rd") => `(tactic| repeat walk_at "rd1")
local macro_rules | `(tactic| walk_at "ds") => `(tactic| dsimp only [tNil, tCons, tC, tNoPart, tPart, tCB, tOp, tTest, tB, tCall, List.nil_append, List.cons_append, List.append_nil])
local macro_rules | `(tactic| walk_at "tup") => `(tactic| (intro t nt))

section
variable {P : Program} {w : World} {K : PySem.W.Frag} {mg : Str → Option Value} {base : Heap}
def spPieces (K : PySem.W.Frag) : Sp := fun vs H Q _ => ∃ (v : V) (e : E), vs = [v] ∧ TE K H v e ∧ e.hgt ≤ 8 ∧ e.size ≤ 60 ∧ e.ok (fun _ => False) ∧
  ∀ (p : Addr) (H' : Hp) (ws : List V), Ext [] H H' → H p = none → H' p = some (.lst ws) → DpAll K H' ws (piecesD (e.mk 0 fun _ => 0)) → Q (.ref p) H'
theorem ok_pieces (T : Tp K w mg) : FnOk P w K mg base CX0 15 T.pieces.f T.pieces.d P_pieces (spPieces K) := by
  refine T.pieces.F.ok sc_pieces (fun vs H Q E h => ?_) (fun cdv A outer s' H vs Q X hr hsp => ?_)
  · obtain ⟨v, e, rfl, _⟩ := h
    rfl
  obtain ⟨v, e, rfl, te, eh, es, eo, q⟩ := hsp
  refine ⟨_, (pss_cons (ps_set (i := 1) sc_pieces.nd rfl (Or.inr rfl) (pe_cl T.layouts_of (ok_layouts_of T) hr (by first | decide | omega) (by rfl) (pa_cons (pe_cl T.marked (ok_marked T) hr (by first | decide | omega) (by rfl) (pa_cons (pv 0) pa_nil)) pa_nil)))
    (pss_one (ps_ret (pe_lc (own := [("layout", 2)]) (g := gName 2) (tt := tYes) (by rfl) sc_pieces.nd (pi_lvals (P := P) (w := w) rfl rfl (pv 1)) (blkOk_by (N := N_pieces) (sc := defScope s_pieces) (by decide +kernel)) (fun _ _ _ _ _ => (pg_name (i := 2) sc_pieces.nd rfl (Or.inl rfl))) (fun _ _ _ _ _ => pts_nil) (fun _ _ _ _ _ => (pe_tup (pa_cons (pe_fldK (K := K) rfl (pv 2) rfl) (pa_cons (pe_callTy (T := "tuple") (call_tupleK (K := K) rfl) (by rfl) T.B.b_tuple (by decide +kernel) (pa_cons (pe_fldK (K := K) rfl (pv 2) rfl) pa_nil)) (pa_cons (pe_cl T.cut (ok_cut (P := P) T 9) hr (by first | decide | omega) (by rfl) (pa_cons (pe_fldK (K := K) rfl (pv 2) rfl) (pa_cons (pv 2) (pa_cons (pv 1) pa_nil)))) pa_nil))))))))), ?_⟩
  walk_at "rd"
  refine ⟨v, e, rfl, te, eh, es, eo, fun u H1 x1 tu => ?_⟩
  have pr := prog_mk eo
  have hm := e.mk_hgt 0 fun _ => 0
  have hs := e.mk_size 0 fun _ => 0
  generalize (e.mk 0 fun _ => 0) = t at tu hm hs q pr
  walk_at "rd"
  refine ⟨u, t, rfl, tu, by omega, by omega, pr.rise, fun p H2 kvs x2 np hd hl => ?_⟩
  have x02 := x1.trans x2
  have nd := pr.nodup
  have us : ∀ p ∈ t.lays, p.2.used.length ≤ 100 := fun p hp => by have := lays_used hp (by omega); omega
  have bd : ∀ p ∈ t.lays, p.2.body.hgt ≤ 9 := fun p hp => by have := (lays_body hp).1; omega
  have ck : ∀ p ∈ t.lays, p.2.body.cutOk p.2 (usesOf t) t.lays := fun p hp => pr.cutOk hp
  have pe : piecesD t = t.lays.map fun p => pieceD t p.2 := rfl
  rw [pe] at q
  have hlen : t.lays.length ≤ 61 := by
    unfold E.lays
    rw [List.length_cons, List.length_map]
    have := laysOf_len t.pre
    rw [t.pre_len] at this
    omega
  have kl := hl.len
  have hd0 := hd
  obtain ⟨es2, ep, hdd⟩ := hd
  walk_at "rd"
  refine ⟨p, kvs, es2, ep, rfl, hdd, fun D nD => ?_⟩
  have npD : p ≠ D := fun z => by rw [z, nD] at hdd; cases hdd
  have nD0 : H D = none := x02.fresh0 nD
  refine lc_lvals (P := P) (w := w) (d := p) (kvs := kvs) (es := es2) (ep := ep) (fun i H' => ∃ ws, Ext [] H2 H' ∧ H' D = some (.lst ws) ∧ DpAll K H' ws ((t.lays.take i).map fun p => pieceD t p.2) ∧ ws.length ≤ i)
    ⟨[], Ext.new nD, upd_same, .nil, Nat.le_refl _⟩ (fun i H' _ ⟨_, h, _⟩ => h _ _ hdd (.inl fun z => nomatch z)) ?_ ?_
  · rintro i k x H6 hy ⟨ws, g1, g3, g4, g5⟩
    have ix := (List.getElem?_eq_some_iff.mp hy).1
    obtain ⟨y, lp, hy2, e2, lay0⟩ := hl.at hy
    have ym := List.mem_of_getElem? hy2
    have e2' : x = .ref lp := e2
    subst e2'
    have lay := lay0.ext g1
    obtain ⟨dx, bv, ul, sl, hl2, _, q1, q2, q3, q4, q5⟩ := id lay
    refine ⟨rfl, ?_⟩
    walk_at "rd"
    refine ⟨_, _, _, _, _, rfl, q1, T.c_Layout, T.n_Layout_site, rfl, ?_⟩
    walk_at "rd"
    refine ⟨_, _, _, _, _, rfl, q1, T.c_Layout, T.n_Layout_used, rfl, ?_⟩
    refine ⟨ul, _, rfl, .inl ⟨SqL.of q3, fun tt ntt => ?_⟩⟩
    have x7 := Ext.new (ms := []) (o := .tup (y.used.map V.int)) ntt
    have htt : upd H6 tt (.tup (y.used.map V.int)) tt = some (.tup (y.used.map V.int)) := upd_same
    generalize upd H6 tt (.tup (y.used.map V.int)) = H7 at x7 htt ⊢
    have q1' := x7 _ _ q1 (.inl fun z => nomatch z)
    walk_at "rd"
    refine ⟨_, _, _, _, _, rfl, q1', T.c_Layout, T.n_Layout_body, rfl, ?_⟩
    have x27 := g1.trans x7
    walk_at "rd"
    refine ⟨bv, y.body, lp, p, y, H1, kvs, t.lays, usesOf t, rfl, TE.ext x7 q2, bd _ ym, lay.ext x7, hd0.ext x27, hl.ext x27, nd, us, ck _ ym, fun u H8 x8 du => ?_⟩
    walk_at "rd"
    intro t3 nt3
    have x9 := Ext.new (ms := []) (o := .tup [oV y.site, .ref tt, u]) nt3
    have ht3 : upd H8 t3 (.tup [oV y.site, .ref tt, u]) t3 = some (.tup [oV y.site, .ref tt, u]) := upd_same
    generalize upd H8 t3 (.tup [oV y.site, .ref tt, u]) = H9 at x9 ht3 ⊢
    have x69 := (x7.trans x8).trans x9
    have hD9 := x69.lst (fun z => nomatch z) g3
    refine ⟨ws, hD9, small1000 (by omega), ws ++ [.ref t3], (g1.trans x69).mut nD, upd_same, ?_, by rw [List.length_append]; exact Nat.succ_le_succ g5⟩
    rw [List.take_succ, hy2]
    refine DpAll.extT (Ext.put hD9 (List.mem_singleton.mpr rfl)) _ _ (noLs_map _ (fun p : Leaf × Lay => pieceD_noL t p.2) _) ?_
    rw [List.map_append]
    refine DpAll.snoc (.tup (SqT.of ht3) (.cons (dpO y.site) (.cons (.tup (SqT.of ((x8.trans x9).tup htt)) (dpInts _)) (.cons (Dp.ext x9 _ _ du) .nil)))) (DpAll.ext x69 _ _ g4)
  · rintro H6 ⟨ws, g1, g3, g4, g5⟩
    rw [kl, List.take_length] at g4
    walk_at "rd"
    exact q D H6 ws (x02.trans g1) nD0 g3 g4
end
end Env
end
section
set_option Elab.async false
set_option linter.all false
set_option maxRecDepth 100000
set_option maxHeartbeats 4000000
namespace Env
open PySem L2
/-! ### the funs of a program, as the law goes through them: name, body, site, the sites of the names around -/
def gr (ρ : Int → Option Int) : Int → Int := fun k => (ρ k).getD 0
theorem gr_st (ρ : Int → Option Int) (k n : Int) : gr (st ρ k (some n)) = put (gr ρ) k n := by
  funext j
  unfold gr st put
  by_cases e : j = k
  · rw [if_pos e, if_pos e]; rfl
  · rw [if_neg e, if_neg e]
theorem gr_none : gr (fun _ => none) = fun _ => 0 := rfl
def E.fl : E → Int → (Int → Option Int) → List (Int × E × Int × (Int → Option Int))
  | .num _, _, _ => []
  | .nam _, _, _ => []
  | .plus a b, n, ρ => a.fl n ρ ++ b.fl (n + a.sites) ρ
  | .elet k a b, n, ρ => a.fl (n + 1) ρ ++ b.fl (n + 1 + a.sites) (st ρ k (some n))
  | .efun k a, n, ρ => (k, a, n, ρ) :: a.fl (n + 1) (st ρ k (some n))
  | .call a b, n, ρ => a.fl n ρ ++ b.fl (n + a.sites) ρ
  | .eif a b c, n, ρ => a.fl n ρ ++ b.fl (n + a.sites) ρ ++ c.fl (n + a.sites + b.sites) ρ
def flL (x : Int × E × Int × (Int → Option Int)) : Int × Lay := (x.2.2.1, mkLay (some x.2.2.1) (x.2.1.mk (x.2.2.1 + 1) (gr (st x.2.2.2 x.1 (some x.2.2.1)))))
theorem fl_lays : ∀ (e : E) (n : Int) (ρ : Int → Option Int), (e.fl n ρ).map flL = laysOf (e.mk n (gr ρ)).pre
  | .num _, _, _ => rfl
  | .nam _, _, _ => rfl
  | .plus a b, n, ρ => by simp only [Env.E.fl, Env.E.mk, Env.E.pre, List.map_append, laysOf, laysOf_app, fl_lays a, fl_lays b]
  | .call a b, n, ρ => by simp only [Env.E.fl, Env.E.mk, Env.E.pre, List.map_append, laysOf, laysOf_app, fl_lays a, fl_lays b]
  | .eif a b c, n, ρ => by simp only [Env.E.fl, Env.E.mk, Env.E.pre, List.map_append, laysOf, laysOf_app, fl_lays a, fl_lays b, fl_lays c]
  | .elet k a b, n, ρ => by simp only [Env.E.fl, Env.E.mk, Env.E.pre, List.map_append, laysOf, laysOf_app, fl_lays a, fl_lays b, gr_st]
  | .efun k a, n, ρ => by
    simp only [Env.E.fl, Env.E.mk, Env.E.pre, List.map_cons, laysOf, fl_lays a, gr_st]
    unfold flL
    simp only [gr_st]
/-! ### owners -/
theorem own_range : ∀ (e : E) (n : Int) (o : Option Int), (∀ p ∈ e.owners n o, n ≤ p.1 ∧ p.1 < n + e.sites) ∧ ((e.owners n o).map (·.1)).Pairwise (· < ·) ∧ ∀ s, n ≤ s → s < n + e.sites → ∃ u, (s, u) ∈ e.owners n o := by
  have app : ∀ {a b : List (Int × Option Int)} {n m k : Int}, n ≤ m → m ≤ k → (∀ p ∈ a, n ≤ p.1 ∧ p.1 < m) ∧ (a.map (·.1)).Pairwise (· < ·) ∧ (∀ s, n ≤ s → s < m → ∃ u, (s, u) ∈ a) → (∀ p ∈ b, m ≤ p.1 ∧ p.1 < k) ∧ (b.map (·.1)).Pairwise (· < ·) ∧ (∀ s, m ≤ s → s < k → ∃ u, (s, u) ∈ b) →
      (∀ p ∈ a ++ b, n ≤ p.1 ∧ p.1 < k) ∧ ((a ++ b).map (·.1)).Pairwise (· < ·) ∧ (∀ s, n ≤ s → s < k → ∃ u, (s, u) ∈ a ++ b) := by
    intro a b n m k h1 h2 ⟨a1, a2, a3⟩ ⟨b1, b2, b3⟩
    refine ⟨fun p hp => ?_, ?_, fun s g1 g2 => ?_⟩
    · rcases List.mem_append.mp hp with h | h
      · have := a1 p h; omega
      · have := b1 p h; omega
    · rw [List.map_append, List.pairwise_append]
      refine ⟨a2, b2, fun x hx y hy => ?_⟩
      obtain ⟨p, hp, rfl⟩ := List.mem_map.mp hx
      obtain ⟨q, hq, rfl⟩ := List.mem_map.mp hy
      have := a1 p hp; have := b1 q hq; omega
    · by_cases c : s < m
      · obtain ⟨u, hu⟩ := a3 s g1 c; exact ⟨u, List.mem_append_left _ hu⟩
      · obtain ⟨u, hu⟩ := b3 s (by omega) g2; exact ⟨u, List.mem_append_right _ hu⟩
  have cons : ∀ {b : List (Int × Option Int)} {n k : Int} {o : Option Int}, n + 1 ≤ k → (∀ p ∈ b, n + 1 ≤ p.1 ∧ p.1 < k) ∧ (b.map (·.1)).Pairwise (· < ·) ∧ (∀ s, n + 1 ≤ s → s < k → ∃ u, (s, u) ∈ b) →
      (∀ p ∈ (n, o) :: b, n ≤ p.1 ∧ p.1 < k) ∧ (((n, o) :: b).map (·.1)).Pairwise (· < ·) ∧ (∀ s, n ≤ s → s < k → ∃ u, (s, u) ∈ (n, o) :: b) := by
    intro b n k o h1 ⟨b1, b2, b3⟩
    refine ⟨fun p hp => ?_, ?_, fun s g1 g2 => ?_⟩
    · rcases List.mem_cons.mp hp with rfl | h
      · exact ⟨Int.le_refl _, by omega⟩
      · have := b1 p h; omega
    · rw [List.map_cons, List.pairwise_cons]
      refine ⟨fun y hy => ?_, b2⟩
      obtain ⟨q, hq, rfl⟩ := List.mem_map.mp hy
      have := b1 q hq; show n < q.1; omega
    · by_cases c : s = n
      · exact ⟨o, by rw [c]; exact List.mem_cons_self⟩
      · obtain ⟨u, hu⟩ := b3 s (by omega) g2; exact ⟨u, List.mem_cons_of_mem _ hu⟩
  intro e
  induction e with
  | num k => intro n o; exact ⟨fun _ h => (nomatch h), .nil, fun s h1 h2 => by simp only [Env.E.sites] at h2; omega⟩
  | nam k => intro n o; exact ⟨fun _ h => (nomatch h), .nil, fun s h1 h2 => by simp only [Env.E.sites] at h2; omega⟩
  | plus a b iha ihb =>
    intro n o
    have := app (by omega) (by omega) (iha n o) (ihb (n + a.sites) o)
    simp only [Env.E.owners, Env.E.sites]
    rw [show n + ((a.sites + b.sites : Nat) : Int) = n + a.sites + b.sites by omega]
    exact this
  | call a b iha ihb =>
    intro n o
    have := app (by omega) (by omega) (iha n o) (ihb (n + a.sites) o)
    simp only [Env.E.owners, Env.E.sites]
    rw [show n + ((a.sites + b.sites : Nat) : Int) = n + a.sites + b.sites by omega]
    exact this
  | eif a b c iha ihb ihc =>
    intro n o
    have := app (by omega) (by omega) (app (by omega) (by omega) (iha n o) (ihb (n + a.sites) o)) (ihc (n + a.sites + b.sites) o)
    simp only [Env.E.owners, Env.E.sites]
    rw [show n + ((a.sites + b.sites + c.sites : Nat) : Int) = n + a.sites + b.sites + c.sites by omega]
    exact this
  | elet k a b iha ihb =>
    intro n o
    have := cons (o := o) (by omega) (app (by omega) (by omega) (iha (n + 1) o) (ihb (n + 1 + a.sites) o))
    simp only [Env.E.owners, Env.E.sites]
    rw [show n + ((1 + a.sites + b.sites : Nat) : Int) = n + 1 + a.sites + b.sites by omega]
    exact this
  | efun k a iha =>
    intro n o
    have := cons (o := some n) (by omega) (iha (n + 1) (some n))
    simp only [Env.E.owners, Env.E.sites]
    rw [show n + ((1 + a.sites : Nat) : Int) = n + 1 + a.sites by omega]
    exact this
/-- a let straight within is the owner's -/
theorem own_lets : ∀ (e : E) (n : Int) (o : Option Int) (ρ : Int → Int) (s : Int), s ∈ (e.mk n ρ).lets → (s, o) ∈ e.owners n o
  | .num _, _, _, _, _, h => nomatch h
  | .nam _, _, _, _, _, h => nomatch h
  | .efun _ _, _, _, _, _, h => nomatch h
  | .plus a b, n, o, ρ, s, h => by
    simp only [Env.E.mk, Env.E.lets, List.mem_append] at h
    simp only [Env.E.owners, List.mem_append]
    exact h.imp (own_lets a n o ρ s) (own_lets b _ o ρ s)
  | .call a b, n, o, ρ, s, h => by
    simp only [Env.E.mk, Env.E.lets, List.mem_append] at h
    simp only [Env.E.owners, List.mem_append]
    exact h.imp (own_lets a n o ρ s) (own_lets b _ o ρ s)
  | .eif a b c, n, o, ρ, s, h => by
    simp only [Env.E.mk, Env.E.lets, List.mem_append] at h
    simp only [Env.E.owners, List.mem_append]
    rcases h with h | h | h
    · exact .inl (.inl (own_lets a n o ρ s h))
    · exact .inl (.inr (own_lets b _ o ρ s h))
    · exact .inr (own_lets c _ o ρ s h)
  | .elet k a b, n, o, ρ, s, h => by
    simp only [Env.E.mk, Env.E.lets, List.mem_cons, List.mem_append] at h
    simp only [Env.E.owners, List.mem_cons, List.mem_append]
    rcases h with rfl | h | h
    · exact .inl rfl
    · exact .inr (.inl (own_lets a _ o ρ s h))
    · exact .inr (.inr (own_lets b _ o _ s h))
/-- what is not the owner's own lies within a fun -/
theorem own_not : ∀ (e : E) (n : Int) (o : Option Int) (ρ : Int → Int) (s : Int) (u : Option Int), (s, u) ∈ e.owners n o → (u = o ∧ s ∈ (e.mk n ρ).lets) ∨ ∃ f, u = some f ∧ n ≤ f ∧ f ≤ s
  | .num _, _, _, _, _, _, h => nomatch h
  | .nam _, _, _, _, _, _, h => nomatch h
  | .efun _ a, n, o, ρ, s, u, h => by
    simp only [Env.E.owners, List.mem_cons] at h
    rcases h with h | h
    · cases h; exact .inr ⟨n, rfl, Int.le_refl _, Int.le_refl _⟩
    · have hr := (own_range a (n + 1) (some n)).1 _ h
      rcases own_not a (n + 1) (some n) ρ s u h with ⟨h1, _⟩ | ⟨f, h1, h2, h3⟩
      · exact .inr ⟨n, h1, Int.le_refl _, by have : n + 1 ≤ s := hr.1; omega⟩
      · exact .inr ⟨f, h1, by omega, h3⟩
  | .plus a b, n, o, ρ, s, u, h => by
    simp only [Env.E.owners, List.mem_append] at h
    simp only [Env.E.mk, Env.E.lets, List.mem_append]
    rcases h with h | h
    · rcases own_not a n o ρ s u h with ⟨h1, h2⟩ | ⟨f, h1, h2, h3⟩
      · exact .inl ⟨h1, .inl h2⟩
      · exact .inr ⟨f, h1, h2, h3⟩
    · rcases own_not b _ o ρ s u h with ⟨h1, h2⟩ | ⟨f, h1, h2, h3⟩
      · exact .inl ⟨h1, .inr h2⟩
      · exact .inr ⟨f, h1, by omega, h3⟩
  | .call a b, n, o, ρ, s, u, h => by
    simp only [Env.E.owners, List.mem_append] at h
    simp only [Env.E.mk, Env.E.lets, List.mem_append]
    rcases h with h | h
    · rcases own_not a n o ρ s u h with ⟨h1, h2⟩ | ⟨f, h1, h2, h3⟩
      · exact .inl ⟨h1, .inl h2⟩
      · exact .inr ⟨f, h1, h2, h3⟩
    · rcases own_not b _ o ρ s u h with ⟨h1, h2⟩ | ⟨f, h1, h2, h3⟩
      · exact .inl ⟨h1, .inr h2⟩
      · exact .inr ⟨f, h1, by omega, h3⟩
  | .eif a b c, n, o, ρ, s, u, h => by
    simp only [Env.E.owners, List.mem_append] at h
    simp only [Env.E.mk, Env.E.lets, List.mem_append]
    rcases h with (h | h) | h
    · rcases own_not a n o ρ s u h with ⟨h1, h2⟩ | ⟨f, h1, h2, h3⟩
      · exact .inl ⟨h1, .inl h2⟩
      · exact .inr ⟨f, h1, h2, h3⟩
    · rcases own_not b _ o ρ s u h with ⟨h1, h2⟩ | ⟨f, h1, h2, h3⟩
      · exact .inl ⟨h1, .inr (.inl h2)⟩
      · exact .inr ⟨f, h1, by omega, h3⟩
    · rcases own_not c _ o ρ s u h with ⟨h1, h2⟩ | ⟨f, h1, h2, h3⟩
      · exact .inl ⟨h1, .inr (.inr h2)⟩
      · exact .inr ⟨f, h1, by omega, h3⟩
  | .elet k a b, n, o, ρ, s, u, h => by
    simp only [Env.E.owners, List.mem_cons, List.mem_append] at h
    simp only [Env.E.mk, Env.E.lets, List.mem_cons, List.mem_append]
    rcases h with h | h | h
    · cases h; exact .inl ⟨rfl, .inl rfl⟩
    · rcases own_not a _ o ρ s u h with ⟨h1, h2⟩ | ⟨f, h1, h2, h3⟩
      · exact .inl ⟨h1, .inr (.inl h2)⟩
      · exact .inr ⟨f, h1, by omega, h3⟩
    · rcases own_not b _ o (put ρ k n) s u h with ⟨h1, h2⟩ | ⟨f, h1, h2, h3⟩
      · exact .inl ⟨h1, .inr (.inr h2)⟩
      · exact .inr ⟨f, h1, by omega, h3⟩
/-- the owners within a fun are among all -/
theorem fl_own : ∀ (e : E) (n : Int) (ρ : Int → Option Int) (o : Option Int) {x : Int × E × Int × (Int → Option Int)}, x ∈ e.fl n ρ → ∀ p ∈ x.2.1.owners (x.2.2.1 + 1) (some x.2.2.1), p ∈ e.owners n o
  | .num _, _, _, _, _, h, _, _ => nomatch h
  | .nam _, _, _, _, _, h, _, _ => nomatch h
  | .plus a b, n, ρ, o, x, h, p, hp => by
    simp only [Env.E.fl, List.mem_append] at h
    simp only [Env.E.owners, List.mem_append]
    exact h.imp (fun h => fl_own a n ρ o h p hp) fun h => fl_own b _ ρ o h p hp
  | .call a b, n, ρ, o, x, h, p, hp => by
    simp only [Env.E.fl, List.mem_append] at h
    simp only [Env.E.owners, List.mem_append]
    exact h.imp (fun h => fl_own a n ρ o h p hp) fun h => fl_own b _ ρ o h p hp
  | .eif a b c, n, ρ, o, x, h, p, hp => by
    simp only [Env.E.fl, List.mem_append] at h
    simp only [Env.E.owners, List.mem_append]
    exact h.imp (fun h => h.imp (fun h => fl_own a n ρ o h p hp) fun h => fl_own b _ ρ o h p hp) fun h => fl_own c _ ρ o h p hp
  | .elet k a b, n, ρ, o, x, h, p, hp => by
    simp only [Env.E.fl, List.mem_append] at h
    simp only [Env.E.owners, List.mem_cons, List.mem_append]
    exact .inr (h.imp (fun h => fl_own a _ ρ o h p hp) fun h => fl_own b _ _ o h p hp)
  | .efun k a, n, ρ, o, x, h, p, hp => by
    simp only [Env.E.fl, List.mem_cons] at h
    simp only [Env.E.owners, List.mem_cons]
    rcases h with rfl | h
    · exact .inr hp
    · exact .inr (fl_own a _ _ (some n) h p hp)
theorem fl_self : ∀ (e : E) (n : Int) (ρ : Int → Option Int) (o : Option Int) {x : Int × E × Int × (Int → Option Int)}, x ∈ e.fl n ρ → (x.2.2.1, some x.2.2.1) ∈ e.owners n o
  | .num _, _, _, _, _, h => nomatch h
  | .nam _, _, _, _, _, h => nomatch h
  | .plus a b, n, ρ, o, x, h => by
    simp only [Env.E.fl, List.mem_append] at h
    simp only [Env.E.owners, List.mem_append]
    exact h.imp (fl_self a n ρ o) (fl_self b _ ρ o)
  | .call a b, n, ρ, o, x, h => by
    simp only [Env.E.fl, List.mem_append] at h
    simp only [Env.E.owners, List.mem_append]
    exact h.imp (fl_self a n ρ o) (fl_self b _ ρ o)
  | .eif a b c, n, ρ, o, x, h => by
    simp only [Env.E.fl, List.mem_append] at h
    simp only [Env.E.owners, List.mem_append]
    exact h.imp (fun h => h.imp (fl_self a n ρ o) (fl_self b _ ρ o)) (fl_self c _ ρ o)
  | .elet k a b, n, ρ, o, x, h => by
    simp only [Env.E.fl, List.mem_append] at h
    simp only [Env.E.owners, List.mem_cons, List.mem_append]
    exact .inr (h.imp (fl_self a _ ρ o) (fl_self b _ _ o))
  | .efun k a, n, ρ, o, x, h => by
    simp only [Env.E.fl, List.mem_cons] at h
    simp only [Env.E.owners, List.mem_cons]
    rcases h with rfl | h
    · exact .inl rfl
    · exact .inr (fl_self a _ _ (some n) h)
theorem key_uniq {α : Type} : ∀ {l : List (Int × α)} {s : Int} {x y : α}, (l.map (·.1)).Pairwise (· < ·) → (s, x) ∈ l → (s, y) ∈ l → x = y := fun {l s x y} hw hx hy => by
  have h1 := find_key hw hx
  have h2 := find_key hw hy
  rw [h1] at h2
  cases h2
  rfl
/-- whose binding it is, by a layout -/
def OwnOk (ow : List (Int × Option Int)) (l : Lay) : Prop := ∀ s, (s ∈ l.sites ∨ s ∈ l.used) → ∃ u, (s, u) ∈ ow ∧ (u = l.site ↔ s ∈ l.sites)
theorem own_ok_none (e : E) : OwnOk (e.owners 0 none) (mkLay none (e.mk 0 fun _ => 0)) := fun s hs => by
  rcases hs with hs | hs
  · exact ⟨none, own_lets e 0 none _ s hs, fun _ => hs, fun _ => rfl⟩
  · exact nomatch hs
theorem own_ok_fun {e : E} (eo : e.ok fun _ => False) {x : Int × E × Int × (Int → Option Int)} (hx : x ∈ e.fl 0 fun _ => none) : OwnOk (e.owners 0 none) (flL x).2 := by
  have hself := fl_self e 0 _ none hx
  have hsub := fl_own e 0 _ none hx
  have hm : flL x ∈ laysOf (e.mk 0 fun _ => 0).pre := by
    rw [show (fun _ => 0 : Int → Int) = gr fun _ => none from rfl, ← fl_lays]
    exact List.mem_map.mpr ⟨x, hx, rfl⟩
  obtain ⟨k, b, m, σ⟩ := x
  dsimp only at hself hsub
  obtain ⟨c, hc, ec⟩ := laysOf_mem.mp hm
  intro s hs
  by_cases h1 : s ∈ (flL (k, b, m, σ)).2.sites
  · refine ⟨some m, ?_, fun _ => h1, fun _ => rfl⟩
    rcases List.mem_cons.mp h1 with rfl | h2
    · exact hself
    · exact hsub _ (own_lets b (m + 1) (some m) _ s h2)
  · have h2 := hs.resolve_left h1
    have pr := prog_mk eo
    obtain ⟨f1, f2, A', f3, f4⟩ := E.fun_wf pr.wf hc
    rw [ec] at h2
    have h3 : s ∈ srt (E.low m c.pre) := h2
    rw [srt_mem, low_mem] at h3
    have h4 := (E.nam_scope f3 h3.1 (by have := h3.2; show s < m + 1; omega)).resolve_left (by have := h3.2; show ¬ s = m; omega)
    have h5 := (f4 s h4).resolve_left id
    have hs1 := E.mk_sites e 0 fun _ => 0
    rw [hs1] at f2
    have f2' : m < 0 + (e.sites : Int) := f2
    have h6 : s < m := h3.2
    obtain ⟨u, hu⟩ := (own_range e 0 none).2.2 s h5.1 (by omega)
    refine ⟨u, hu, fun z => ?_, fun z => absurd z h1⟩
    rw [z] at hu
    rcases own_not e 0 none (fun _ => 0) s _ hu with ⟨z, _⟩ | ⟨f, z, _, z3⟩
    · cases z
    · have : m = f := Option.some.inj z
      omega
/-! ### for the law's cut -/
theorem cut2 (x y : V) (xs : List V) : cutV (x :: y :: xs) (some 2) none = xs := by
  unfold cutV
  rw [show HT.sIx (x :: y :: xs).length 0 (some 2) = min 2 (x :: y :: xs).length from HT.sIx_nat _ 0 2, HT.sIx_none]
  have : min 2 (x :: y :: xs).length = 2 := by rw [List.length_cons, List.length_cons]; omega
  rw [this]
  show List.take _ (List.drop 2 (x :: y :: xs)) = xs
  rw [show List.drop 2 (x :: y :: xs) = xs from rfl, List.length_cons, List.length_cons]
  exact List.take_length
theorem cut2_not (x y : V) (xs : List V) : ¬ (HT.sIx (x :: y :: xs).length 0 (some 2) = 0 ∧ HT.sIx (x :: y :: xs).length (x :: y :: xs).length none = (x :: y :: xs).length) := fun ⟨h, _⟩ => by
  rw [show HT.sIx (x :: y :: xs).length 0 (some 2) = min 2 (x :: y :: xs).length from HT.sIx_nat _ 0 2, List.length_cons, List.length_cons] at h
  omega
theorem MIts.heads {K : PySem.W.Frag} {H : Hp} {e : E} {vs : List V} {n : Int} (h : e.isHead = true) (hi : MIts K H vs e.its n) : MTs K H vs e.kids n := by
  cases e <;> simp only [Env.E.isHead] at h <;> first | cases h | skip
  · match vs, hi with
    | [_, _], ⟨a, b, _⟩ => exact ⟨a, b, trivial⟩
  · match vs, hi with
    | [_, _], ⟨a, b, _⟩ => exact ⟨a, b, trivial⟩
  · match vs, hi with
    | [_, _, _], ⟨a, b, c, _⟩ => exact ⟨a, b, c, trivial⟩
theorem mk_head {e : E} {n : Int} {ρ : Int → Int} (h : e.isHead = true) : (e.mk n ρ).isHead = true ∧ (e.mk n ρ).kids = mkl e.kids n ρ ∧ (e.mk n ρ).word = e.word := by
  cases e <;> simp only [Env.E.isHead] at h <;> first | cases h | skip
  · exact ⟨rfl, rfl, rfl⟩
  · exact ⟨rfl, rfl, rfl⟩
  · exact ⟨rfl, rfl, rfl⟩
theorem mkl_mem : ∀ {l : List E} {n : Int} {ρ : Int → Int} {i : Nat} {c : E}, l[i]? = some c → c.mk (n + sitesE (l.take i)) ρ ∈ mkl l n ρ
  | [], _, _, _, _, h => by simp at h
  | e :: r, n, ρ, 0, c, h => by
    cases h
    rw [List.take_zero, show n + sitesE [] = n from Int.add_zero n]
    exact List.mem_cons_self
  | e :: r, n, ρ, i + 1, c, h => by
    have q := @mkl_mem r (n + e.sites) ρ i c h
    rw [List.take_succ_cons, show n + sitesE (e :: r.take i) = n + e.sites + sitesE (r.take i) from (Int.add_assoc _ _ _).symm]
    exact List.mem_cons_of_mem _ q
theorem mkl_len : ∀ (l : List E) (n : Int) (ρ : Int → Int), (mkl l n ρ).length = l.length
  | [], _, _ => rfl
  | e :: r, n, ρ => congrArg (· + 1) (mkl_len r _ ρ)
end Env
end
section
set_option Elab.async false
set_option linter.all false
set_option maxRecDepth 100000
set_option maxHeartbeats 4000000
namespace Env
open PySem L2
local macro_rules | `(tactic| walk_at "side") => `(tactic| first
  | assumption
  | ((try dsimp only); omega)
  | decide
  | exact ⟨by omega, by omega⟩
  | exact .inr ⟨by decide, by decide⟩
  | exact .inl ⟨by omega, by omega⟩)
local macro_rules | `(tactic| walk_at "rd1") => `(tactic| first
  | with_reducible refine Exists.intro _ (And.intro rfl ?_)
  | refine Exists.intro _ (And.intro rfl ?_)
  | refine ⟨_, _, rfl, rfl, ?_⟩
  | refine And.intro rfl ?_
  | refine ⟨_, _, _, _, rfl, rfl, SqL.of (by assumption), rfl, ?_⟩
  | refine ⟨_, _, _, _, rfl, rfl, SqL.of upd_same, rfl, ?_⟩
  | refine And.intro (szb rfl) ?_
  | refine And.intro (Or.inl (And.intro rfl (Exists.intro _ (SqL.of (by assumption))))) ?_
  | refine Or.inl (Exists.intro _ (And.intro rfl ?_))
  | refine Or.inr (Exists.intro _ (And.intro rfl ?_))
  | refine And.intro (by walk_at "side") ?_
  | refine ⟨_, _, _, _, rfl, rfl, (by assumption), rfl, ?_⟩
  | refine ⟨_, _, _, _, rfl, rfl, upd_same, rfl, ?_⟩
  | refine ⟨_, _, rfl, .inl (SqL.of (by assumption)), ?_⟩
  | refine ⟨_, _, rfl, .inl (SqL.of upd_same), ?_⟩
  | refine ⟨_, _, rfl, .inl (by assumption), ?_⟩)
local macro_rules | `(tactic| walk_at "rd") => `(tactic| repeat walk_at "rd1")
local macro_rules | `(tactic| walk_at "ds") => `(tactic| dsimp only [tNil, tCons, tC, tNoPart, tPart, tCB, tOp, tTest, tB, tCall, List.nil_append, List.cons_append, List.append_nil])
local macro_rules | `(tactic| walk_at "tup") => `(tactic| (intro t nt))

section
variable {P : Program} {w : World} {K : PySem.W.Frag} {mg : Str → Option Value} {base : Heap}
theorem val_oK : ∀ {l : List (Int × Option Int)} {s : Int} {u : Option Int}, (l.map (·.1)).Pairwise (· < ·) → (s, u) ∈ l → valV (oK l) (Sum.inl s) = some (oV u)
  | [], _, _, _, h => nomatch h
  | p :: l, s, u, hw, h => by
    obtain ⟨w1, w2⟩ := List.pairwise_cons.mp hw
    show valV ((Sum.inl p.1, oV p.2) :: oK l) (Sum.inl s) = _
    rcases List.mem_cons.mp h with rfl | h
    · exact valV_pos rfl
    · have : p.1 < s := w1 s (List.mem_map.mpr ⟨_, h, rfl⟩)
      rw [valV_neg (fun z => by have : p.1 = s := Sum.inl.inj z; omega)]
      exact val_oK w2 h
/-- the law's tables: whose a site is, what the funs use -/
structure LC (H : Hp) (ow td : Addr) (ownl : List (Int × Option Int)) (tkvs : List (Key × V)) (us : List (Int × List Int)) (l : Lay) (ls : List (Leaf × Lay)) : Prop where
  ho : H ow = some (.dK (oK ownl))
  hw : (ownl.map (·.1)).Pairwise (· < ·)
  ok : OwnOk ownl l
  ht : H td = some (.dK tkvs)
  ua : UA H tkvs us
  uw : (us.map (·.1)).Pairwise (· < ·)
  hl : ∀ s y, (Leaf.num s, y) ∈ ls → (s, y.used) ∈ us
  site : ∀ f, l.site = some f → (f, l.used) ∈ us
  none : l.site = none → l.used = []
theorem LC.ext {H H' : Hp} {ow td : Addr} {ownl : List (Int × Option Int)} {tkvs : List (Key × V)} {us : List (Int × List Int)} {l : Lay} {ls : List (Leaf × Lay)} (x : Ext [] H H') (c : LC H ow td ownl tkvs us l ls) : LC H' ow td ownl tkvs us l ls :=
  ⟨x.dk c.ho, c.hw, c.ok, x.dk c.ht, c.ua.ext x, c.uw, c.hl, c.site, c.none⟩
def spLSrc (K : PySem.W.Frag) : Sp := fun vs H Q _ => ∃ (s : Int) (ow td : Addr) (ownl : List (Int × Option Int)) (tkvs : List (Key × V)) (us : List (Int × List Int)) (l : Lay) (ls : List (Leaf × Lay)), vs = [.ref ow, .ref td, oV l.site, .int s] ∧ LC H ow td ownl tkvs us l ls ∧ (s ∈ l.sites ∨ s ∈ l.used) ∧
  ∀ (u : V) (H' : Hp), Ext [] H H' → Dp K H' u (srcD l s) → Q u H'
theorem ok_l_source (T : Tx K mg) : FnOk P w K mg base CX0 1 T.l_source.f T.l_source.d P_l_source (spLSrc K) := by
  refine T.l_source.F.ok sc_l_source (fun vs H Q E h => ?_) (fun cdv A outer s' H vs Q X hr hsp => ?_)
  · obtain ⟨s, ow, td, ownl, tkvs, us, l, ls, rfl, _⟩ := h
    rfl
  obtain ⟨s, ow, td, ownl, tkvs, us, l, ls, rfl, c, hm, q⟩ := hsp
  refine ⟨_, (pss_one (ps_ret (pe_ifExp (pt_cmpR op_eq (pe_dget (hu_of hr) (pv 0) (pv 3) (fun _ _ => rfl)) (pv 2) (nomark _)) (pe_tup (pa_cons pe_str (pa_cons (pv 3) pa_nil))) (pe_tup (pa_cons pe_str (pa_cons (pe_bmK (K := K) rfl PySem.F.plainAttrs_list PySem.F.slot_list_index PySem.F.type_list_index (mtIx (K := K) rfl) (pe_dget (hu_of hr) (pv 1) (pv 2) (fun _ _ => rfl)) (pa_cons (pv 3) pa_nil)) pa_nil)))))), ?_⟩
  obtain ⟨u, hu, hi⟩ := c.ok s hm
  have hv := val_oK c.hw hu
  walk_at "rd"
  have hg := DGet.k (k := Sum.inl s) c.ho
  rw [hv] at hg
  refine ⟨ow, _, rfl, hg, ?_⟩
  walk_at "rd"
  have hsc : scal (oV u) (oV l.site) = true := by
    cases u <;> cases l.site <;> rfl
  refine ⟨hsc, ?_⟩
  walk_at "rd"
  by_cases hs : s ∈ l.sites
  · have e : u = l.site := hi.mpr hs
    refine ite2 (fun _ => ?_) (fun c => absurd (by rw [e]; exact decide_eq_true rfl) c)
    walk_at "rd"
    intro t nt
    refine q _ _ (Ext.new nt) ?_
    unfold srcD
    rw [if_pos (List.contains_iff_mem.mpr hs)]
    exact .tup (SqT.of upd_same) (.cons (.str _) (.cons (.int _) .nil))
  · have e : ¬ u = l.site := fun z => hs (hi.mp z)
    have e2 : ¬ oV u = oV l.site := fun z => e (by
      cases u with
      | none => cases h2 : l.site with
        | none => rfl
        | some n => rw [h2] at z; cases z
      | some m => cases h2 : l.site with
        | none => rw [h2] at z; cases z
        | some n => rw [h2] at z; cases z; rfl)
    refine ite2 (fun c => absurd (of_decide_eq_true c) e2) (fun _ => ?_)
    have hu2 : s ∈ l.used := hm.resolve_left hs
    obtain ⟨f, hf⟩ : ∃ f, l.site = some f := by
      cases h2 : l.site with
      | none => have := c.none h2; rw [this] at hu2; exact nomatch hu2
      | some f => exact ⟨f, rfl⟩
    obtain ⟨a, ha1, ha2⟩ := c.ua.get c.uw _ (c.site f hf)
    have hg2 := DGet.k (k := Sum.inl f) c.ht
    rw [ha1] at hg2
    rw [hf]
    obtain ⟨i1, i2⟩ := idx_first s _ hu2
    walk_at "rd"
    refine ⟨td, _, rfl, hg2, ?_⟩
    walk_at "rd"
    refine ⟨a, _, .int s, l.used.idxOf s, .int s, rfl, rfl, SqL.of ha2, rfl, flat_ints _, i1, ?_, i2, ?_⟩
    · show (s == s) = true
      exact beq_self_eq_true s
    · walk_at "rd"
      intro t nt
      refine q _ _ (Ext.new nt) ?_
      unfold srcD
      rw [if_neg (fun z => hs (List.contains_iff_mem.mp z))]
      exact .tup (SqT.of upd_same) (.cons (.str _) (.cons (.int _) .nil))
def spLCut (K : PySem.W.Frag) (d : Nat) : Sp := fun vs H Q _ => ∃ (v : V) (e : E) (n : Int) (a ow td : Addr) (kvs : List (Key × V)) (ρ : Int → Option Int) (S : Int → Prop) (ownl : List (Int × Option Int)) (tkvs : List (Key × V)) (us : List (Int × List Int)) (l : Lay) (ls : List (Leaf × Lay)) (U : Int → List Int),
  vs = [v, .ref a, oV l.site, .ref ow, .ref td] ∧ MT K H v e n ∧ e.hgt ≤ d ∧ H a = some (.dK kvs) ∧ kvs.length + d ≤ 100 ∧ Says kvs ρ ∧ (∀ k, S k → ∃ s, ρ k = some s) ∧ e.ok S ∧ LC H ow td ownl tkvs us l ls ∧ (∀ p ∈ us, p.2.length ≤ 100) ∧ (e.mk n (gr ρ)).cutOk l U ls ∧
  ∀ (u : V) (H' : Hp), Ext [] H H' → Dp K H' u ((e.mk n (gr ρ)).cut l U) → Q u H'
theorem ok_l_cut_step (T : Tx K mg) (d : Nat) (G_l_cut : FnOk P w K mg base CX0 (d + 2) T.l_cut.f T.l_cut.d P_l_cut (spLCut K d)) :
    FnOk P w K mg base CX0 (d + 3) T.l_cut.f T.l_cut.d P_l_cut (spLCut K (d + 1)) := by
  refine T.l_cut.F.ok sc_l_cut (fun vs H Q E h => ?_) (fun cdv A outer s' H vs Q X hr hsp => ?_)
  · obtain ⟨v, e, n, a, ow, td, kvs, ρ, S, ownl, tkvs, us, l, ls, U, rfl, _⟩ := h
    rfl
  obtain ⟨v, e, n, a, ow, td, kvs, ρ, S, ownl, tkvs, us, l, ls, U, rfl, me, eh, ha, hk, sy, sS, eo, lc, ul, ck, q⟩ := hsp
  refine ⟨_, (pss_cons (ps_if (pt_cmpR op_eq (pe_ix (ixT (K := K) rfl) (pv 0) pe_int (fun _ _ => rfl)) pe_str (nomark _)) (pss_one (ps_ret (pe_tup (pa_cons pe_str (pa_cons (pe_ix (ixT (K := K) rfl) (pv 0) pe_int (fun _ _ => rfl)) pa_nil))))) pss_nil)
    (pss_cons (ps_if (pt_cmpR op_eq (pe_ix (ixT (K := K) rfl) (pv 0) pe_int (fun _ _ => rfl)) pe_str (nomark _)) (pss_one (ps_ret (pe_cl T.l_source (ok_l_source T) hr (by first | decide | omega) (by rfl) (pa_cons (pv 3) (pa_cons (pv 4) (pa_cons (pv 2) (pa_cons (pe_dget (hu_of hr) (pv 1) (pe_ix (ixT (K := K) rfl) (pv 0) pe_int (fun _ _ => rfl)) (fun _ _ => rfl)) pa_nil))))))) pss_nil)
    (pss_cons (ps_if (pt_cmpR op_eq (pe_ix (ixT (K := K) rfl) (pv 0) pe_int (fun _ _ => rfl)) pe_str (nomark _)) (pss_one (ps_ret (pe_tup (pa_cons pe_str (pa_cons (pe_ix (ixT (K := K) rfl) (pv 0) pe_int (fun _ _ => rfl)) (pa_cons (pe_callTy (T := "tuple") call_tuple_of (by rfl) T.B.b_tuple (by decide +kernel) (pa_cons (pe_lc (own := [("_law_site", 5)]) (g := gName 5) (tt := tYes) (by rfl) sc_l_cut.nd (piL (K := K) rfl (pe_dget (hu_of hr) (pv 4) (pe_ix (ixT (K := K) rfl) (pv 0) pe_int (fun _ _ => rfl)) (fun _ _ => rfl))) (blkOk_by (N := N_l_cut) (sc := defScope s_l_cut) (by decide +kernel)) (fun _ _ _ _ _ => (pg_name (i := 5) sc_l_cut.nd rfl (Or.inl rfl))) (fun _ _ _ _ _ => pts_nil) (fun _ _ _ _ _ => (pe_cl T.l_source (ok_l_source T) hr (by first | decide | omega) (by rfl) (pa_cons (pv 3) (pa_cons (pv 4) (pa_cons (pv 2) (pa_cons (pv 5) pa_nil))))))) pa_nil)) pa_nil)))))) pss_nil)
    (pss_cons (ps_if (pt_cmpR op_eq (pe_ix (ixT (K := K) rfl) (pv 0) pe_int (fun _ _ => rfl)) pe_str (nomark _)) (pss_cons (ps_set (i := 6) sc_l_cut.nd rfl (Or.inl rfl) (pe_cl T.l_cut (G_l_cut) hr (by first | decide | omega) (by rfl) (pa_cons (pe_ix (ixT (K := K) rfl) (pv 0) pe_int (fun _ _ => rfl)) (pa_cons (pv 1) (pa_cons (pv 2) (pa_cons (pv 3) (pa_cons (pv 4) pa_nil)))))))
    (pss_one (ps_ret (pe_tup (pa_cons pe_str (pa_cons (pe_ix (ixT (K := K) rfl) (pv 0) pe_int (fun _ _ => rfl)) (pa_cons (pv 6) (pa_cons (pe_cl T.l_cut (G_l_cut) hr (by first | decide | omega) (by rfl) (pa_cons (pe_ix (ixT (K := K) rfl) (pv 0) pe_int (fun _ _ => rfl)) (pa_cons (pe_cl T.l_bound (ok_l_boundG T) hr (by first | decide | omega) (by rfl) (pa_cons (pv 1) (pa_cons (pe_ix (ixT (K := K) rfl) (pv 0) pe_int (fun _ _ => rfl)) (pa_cons (pe_ix (ixT (K := K) rfl) (pv 0) pe_int (fun _ _ => rfl)) pa_nil)))) (pa_cons (pv 2) (pa_cons (pv 3) (pa_cons (pv 4) pa_nil)))))) pa_nil)))))))) pss_nil)
    (pss_one (ps_ret (pe_op (catT (K := K) rfl) (pe_tup (pa_cons (pe_ix (ixT (K := K) rfl) (pv 0) pe_int (fun _ _ => rfl)) pa_nil)) (pe_callTy (T := "tuple") call_tuple_of (by rfl) T.B.b_tuple (by decide +kernel) (pa_cons (pe_lc (own := [("_law_part", 7)]) (g := gName 7) (tt := tYes) (by rfl) sc_l_cut.nd (piT (K := K) rfl (pe_slice (slT (K := K) rfl) (pv 0) (po_some pe_int) po_none)) (blkOk_by (N := N_l_cut) (sc := defScope s_l_cut) (by decide +kernel)) (fun _ _ _ _ _ => (pg_name (i := 7) sc_l_cut.nd rfl (Or.inl rfl))) (fun _ _ _ _ _ => pts_nil) (fun _ _ _ _ _ => (pe_cl T.l_cut (G_l_cut) hr (by first | decide | omega) (by rfl) (pa_cons (pv 7) (pa_cons (pv 1) (pa_cons (pv 2) (pa_cons (pv 3) (pa_cons (pv 4) pa_nil)))))))) pa_nil))))))))), ?_⟩
  have at1 : ∀ x y : V, ∀ l : List V, atI (x :: y :: l) 1 = some y := fun x y l => atI_nat (j := 1) rfl
  have at2 : ∀ x y z : V, ∀ l : List V, atI (x :: y :: z :: l) 2 = some z := fun x y z l => atI_nat (j := 2) rfl
  have at3 : ∀ x y z u : V, ∀ l : List V, atI (x :: y :: z :: u :: l) 3 = some u := fun x y z u l => atI_nat (j := 3) rfl
  have at4 : ∀ x y z u t : V, ∀ l : List V, atI (x :: y :: z :: u :: t :: l) 4 = some t := fun x y z u t l => atI_nat (j := 4) rfl
  obtain ⟨p, vs, rfl, hp, hi⟩ := me.node
  walk_at "rd"
  refine ⟨p, _, 1, _, rfl, rfl, hp, at1 _ _ _, ?_⟩
  walk_at "rd"
  by_cases c1 : ∃ k, e = .num k
  · obtain ⟨k, rfl⟩ := c1
    refine ite2 (fun _ => ?_) (fun c => absurd wd_num_num c)
    obtain ⟨p2, ep, hp2⟩ := me
    cases ep
    walk_at "rd"
    intro t nt
    exact q _ _ (Ext.new nt) (.tup (SqT.of upd_same) (.cons (.str _) (.cons (.int _) .nil)))
  have w1 : decide (V.str e.word = V.str "num") = false := by
    cases e with
    | num k => exact absurd ⟨k, rfl⟩ c1
    | _ => first | exact wd_name_num | exact wd_plus_num | exact wd_let_num | exact wd_fun_num | exact wd_call_num | exact wd_if_num
  refine ite2 (fun c => absurd c (by rw [w1]; decide)) (fun _ => ?_)
  walk_at "rd"
  refine ⟨p, _, 1, _, rfl, rfl, hp, at1 _ _ _, ?_⟩
  walk_at "rd"
  by_cases c2 : ∃ k, e = .nam k
  · obtain ⟨k, rfl⟩ := c2
    refine ite2 (fun _ => ?_) (fun c => absurd wq_name_name c)
    obtain ⟨p2, ep, hp2⟩ := me
    cases ep
    obtain ⟨s, hs⟩ := sS k eo.2.2
    have hg := DGet.k (k := Sum.inl k) ha
    have hv : valV kvs (Sum.inl k) = some (.int s) := by
      rcases sy k with ⟨_, h2⟩ | ⟨_, h2⟩ | ⟨sx, h1, h2⟩
      · rw [hs] at h2; cases h2
      · rw [hs] at h2; cases h2
      · rw [hs] at h2; cases h2; exact h1
    rw [hv] at hg
    have eg : gr ρ k = s := by unfold gr; rw [hs]; rfl
    have ck' : gr ρ k ∈ l.sites ∨ gr ρ k ∈ l.used := ck
    rw [eg] at ck'
    walk_at "rd"
    refine ⟨a, _, rfl, hg, ?_⟩
    walk_at "rd"
    refine ⟨s, ow, td, ownl, tkvs, us, l, ls, rfl, lc, ck', fun u H' x du => q u H' x ?_⟩
    show Dp K H' u (srcD l (gr ρ k))
    rw [eg]; exact du
  have w2 : decide (V.str e.word = V.str "name") = false := by
    cases e with
    | nam k => exact absurd ⟨k, rfl⟩ c2
    | _ => first | exact wq_num_name | exact wq_plus_name | exact wq_let_name | exact wq_fun_name | exact wq_call_name | exact wq_if_name
  refine ite2 (fun c => absurd c (by rw [w2]; decide)) (fun _ => ?_)
  walk_at "rd"
  refine ⟨p, _, 1, _, rfl, rfl, hp, at1 _ _ _, ?_⟩
  walk_at "rd"
  by_cases c3 : ∃ k b, e = .efun k b
  · obtain ⟨k, b, rfl⟩ := c3
    refine ite2 (fun _ => ?_) (fun c => absurd wq_fun_fun c)
    obtain ⟨p2, x, ep, hp2, mb⟩ := me
    cases ep
    obtain ⟨hu, y, hy, yu⟩ := ck
    have hus := lc.hl _ _ hy
    rw [yu] at hus
    obtain ⟨la, hv, hl⟩ := lc.ua.get lc.uw _ hus
    have hlen := ul _ hus
    dsimp only at hl hv hlen
    have hg := DGet.k (k := Sum.inl n) lc.ht
    rw [hv] at hg
    walk_at "rd"
    refine ⟨td, _, rfl, hg, ?_⟩
    refine ⟨la, rfl, ⟨_, SqL.of hl⟩, fun D nD => ?_⟩
    have nLD : la ≠ D := fun z => by rw [z, nD] at hl; cases hl
    refine lc_list (K := K) (a := la) (xs := (U n).map V.int) (fun i H' => ∃ ws, Ext [] H H' ∧ H' la = some (.lst ((U n).map V.int)) ∧ H' D = some (.lst ws) ∧ DpAll K H' ws (((U n).take i).map (srcD l)) ∧ ws.length ≤ i)
      ⟨[], Ext.new nD, by rw [upd_ne nLD]; exact hl, upd_same, .nil, Nat.le_refl _⟩ (fun i H' _ ⟨_, _, h, _⟩ => SqL.of h) ?_ ?_
    · rintro i z H4 hz ⟨ws, g1, g2, g3, g4, g5⟩
      rw [List.getElem?_map] at hz
      obtain ⟨k, hk, rfl⟩ := Option.map_eq_some_iff.mp hz
      have ik := (List.getElem?_eq_some_iff.mp hk).1
      refine ⟨rfl, ?_⟩
      walk_at "rd"
      refine ⟨k, ow, td, ownl, tkvs, us, l, ls, rfl, lc.ext g1, hu k (List.mem_of_getElem? hk), fun u H5 x5 du => ?_⟩
      have hD5 := x5.lst (fun z => nomatch z) g3
      refine ⟨ws, hD5, small1000 (by omega), ws ++ [u], (g1.trans x5).mut nD, by rw [upd_ne nLD]; exact x5.lst (fun z => nomatch z) g2, upd_same, ?_, by rw [List.length_append]; exact Nat.succ_le_succ g5⟩
      rw [List.take_succ, hk]
      refine DpAll.extT (Ext.put hD5 (List.mem_singleton.mpr rfl)) _ _ (noLs_map _ (srcD_noL l) _) ?_
      rw [List.map_append]
      exact DpAll.snoc du (DpAll.ext x5 _ _ g4)
    · rintro H4 ⟨ws, g1, g2, g3, g4, g5⟩
      rw [List.length_map, List.take_length] at g4
      walk_at "rd"
      refine ⟨D, ws, rfl, .inl ⟨SqL.of g3, fun t nt => ?_⟩⟩
      have x6 := Ext.new (ms := []) (o := .tup ws) nt
      have ht : upd H4 t (.tup ws) t = some (.tup ws) := upd_same
      generalize upd H4 t (.tup ws) = H5 at x6 ht ⊢
      walk_at "rd"
      intro t2 nt2
      have x7 := Ext.new (ms := []) (o := .tup [.str "make", .int n, .ref t]) nt2
      exact q _ _ ((g1.trans x6).trans x7) (.tup (SqT.of upd_same) (.cons (.str _) (.cons (.int _) (.cons (.tup (SqT.of (x7.tup ht)) (DpAll.ext (x6.trans x7) _ _ g4)) .nil))))
  have w3 : decide (V.str e.word = V.str "fun") = false := by
    cases e with
    | efun k b => exact absurd ⟨k, b, rfl⟩ c3
    | _ => first | exact wq_num_fun | exact wq_name_fun | exact wq_plus_fun | exact wq_let_fun | exact wq_call_fun | exact wq_if_fun
  refine ite2 (fun c => absurd c (by rw [w3]; decide)) (fun _ => ?_)
  walk_at "rd"
  refine ⟨p, _, 1, _, rfl, rfl, hp, at1 _ _ _, ?_⟩
  walk_at "rd"
  by_cases c4 : ∃ k b c, e = .elet k b c
  · obtain ⟨k, b, c, rfl⟩ := c4
    refine ite2 (fun _ => ?_) (fun c => absurd wq_let_let c)
    obtain ⟨p2, x, y, ep, hp2, mb, mc⟩ := me
    cases ep
    simp only [Env.E.hgt] at eh
    walk_at "rd"
    refine ⟨x, b, _, a, ow, td, kvs, ρ, S, ownl, tkvs, us, l, ls, U, rfl, mb, by omega, ha, by omega, sy, sS, eo.2.2.1, lc, ul, ck.1, fun u1 H1 x1 d1 => ?_⟩
    replace hp2 := x1.seqT hp2
    walk_at "rd"
    refine ⟨a, k, .int n, kvs, rfl, x1.dk ha, by omega, fun b2 H2 x2 nb hb => ?_⟩
    walk_at "rd"
    have hlen := length_putK kvs (Sum.inl k) (V.int n)
    have x12 := x1.trans x2
    refine ⟨y, c, _, b2, ow, td, _, st ρ k (some n), fun j => j = k ∨ S j, ownl, tkvs, us, l, ls, U, rfl, MT.ext x12 mc, by omega, hb, by omega, sy.put k (some n), fun j hj => ?_, eo.2.2.2, lc.ext x12, ul, ?_, fun u2 H3 x3 d2 => ?_⟩
    · unfold st
      by_cases e : j = k
      · rw [if_pos e]; exact ⟨n, rfl⟩
      · rw [if_neg e]; exact sS j (hj.resolve_left e)
    · rw [gr_st]; exact ck.2
    · rw [gr_st] at d2
      walk_at "rd"
      intro t nt
      have x4 := Ext.new (ms := []) (o := .tup [.str "let", .int n, u1, u2]) nt
      exact q _ _ ((x12.trans x3).trans x4) (.tup (SqT.of upd_same) (.cons (.str _) (.cons (.int _) (.cons (Dp.ext ((x2.trans x3).trans x4) _ _ d1) (.cons (Dp.ext x4 _ _ d2) .nil)))))
  have w4 : decide (V.str e.word = V.str "let") = false := by
    cases e with
    | elet k b c => exact absurd ⟨k, b, c, rfl⟩ c4
    | _ => first | exact wq_num_let | exact wq_name_let | exact wq_plus_let | exact wq_fun_let | exact wq_call_let | exact wq_if_let
  refine ite2 (fun c => absurd c (by rw [w4]; decide)) (fun _ => ?_)
  have hh : e.isHead = true := by
    cases e with
    | num k => exact absurd ⟨k, rfl⟩ c1
    | nam k => exact absurd ⟨k, rfl⟩ c2
    | efun k b => exact absurd ⟨k, b, rfl⟩ c3
    | elet k b c => exact absurd ⟨k, b, c, rfl⟩ c4
    | _ => rfl
  obtain ⟨h1, h2, h3⟩ := mk_head (n := n) (ρ := gr ρ) hh
  obtain ⟨_, _, z3⟩ := E.head_size hh
  have hks := hi.heads hh
  have hbz : n + bI e.binds = n := by
    cases e <;> first | exact Int.add_zero n | exact nomatch hh
  rw [hbz] at hks
  have hk1 : 1 ≤ e.kids.length := by
    cases e <;> first | exact Nat.le_of_ble_eq_true rfl | exact nomatch hh
  have hvl := hks.len
  rw [E.cut_head h1, h2, h3] at q
  have ck2 := E.cutOk_head h1 ck
  rw [h2] at ck2
  walk_at "rd"
  refine ⟨p, _, 1, _, rfl, rfl, hp, at1 _ _ _, ?_⟩
  walk_at "rd"
  intro t0 nt0
  have x1 := Ext.new (ms := []) (o := .tup [.str e.word]) nt0
  have ht0 : upd H t0 (.tup [.str e.word]) t0 = some (.tup [.str e.word]) := upd_same
  generalize upd H t0 (.tup [.str e.word]) = H1 at x1 ht0 ⊢
  walk_at "rd"
  refine ⟨p, _, rfl, x1.seqT hp, cut2_not _ _ _, fun T1 nT => ?_⟩
  rw [cut2]
  have x2 := Ext.new (ms := []) (o := .tup vs) nT
  have hT : upd H1 T1 (.tup vs) T1 = some (.tup vs) := upd_same
  generalize upd H1 T1 (.tup vs) = H2 at x2 hT ⊢
  have x02 := x1.trans x2
  have hks2 := hks.ext x02
  refine ⟨T1, rfl, ⟨_, SqT.of hT⟩, fun D nD => ?_⟩
  refine lc_tup (K := K) (a := T1) (xs := vs) (fun i H' => ∃ ws, Ext [] H2 H' ∧ H' D = some (.lst ws) ∧ DpAll K H' ws ((mkl (e.kids.take i) n (gr ρ)).map (E.cut l U)) ∧ ws.length ≤ i)
    ⟨[], Ext.new nD, upd_same, by rw [List.take_zero]; exact .nil, Nat.le_refl _⟩ (fun i H' _ ⟨_, h, _⟩ => h.seqT (SqT.of hT)) ?_ ?_
  · rintro i y H4 hy ⟨ws, g1, g3, g4, g5⟩
    obtain ⟨c, hc, mc⟩ := (hks2.ext g1).at hy
    have hcm := List.mem_of_getElem? hc
    have iv := (List.getElem?_eq_some_iff.mp hy).1
    have x04 := x02.trans g1
    have hmk := mkl_take e.kids n (gr ρ) i c hc
    have hin : c.mk (n + sitesE (e.kids.take i)) (gr ρ) ∈ mkl e.kids n (gr ρ) := mkl_mem hc
    refine ⟨rfl, ?_⟩
    walk_at "rd"
    refine ⟨y, c, _, a, ow, td, kvs, ρ, S, ownl, tkvs, us, l, ls, U, rfl, mc, E.its_hgt eh (kids_mem hcm), x04.dk ha, by omega, sy, sS, E.head_ok hh eo c hcm, lc.ext x04, ul, ck2 _ hin, fun u H5 x5 du => ?_⟩
    have hD5 := x5.lst (fun z => nomatch z) g3
    refine ⟨ws, hD5, small1000 (by omega), ws ++ [u], (g1.trans x5).mut nD, upd_same, ?_, by rw [List.length_append]; exact Nat.succ_le_succ g5⟩
    refine DpAll.extT (Ext.put hD5 (List.mem_singleton.mpr rfl)) _ _ (noLs_map _ (cut_noL l U) _) ?_
    rw [hmk, List.map_append]
    exact DpAll.snoc du (DpAll.ext x5 _ _ g4)
  · rintro H4 ⟨ws, g1, g3, g4, g5⟩
    rw [hvl, List.take_length] at g4
    walk_at "rd"
    refine ⟨D, ws, rfl, .inl ⟨SqL.of g3, fun t nt => ?_⟩⟩
    have x6 := Ext.new (ms := []) (o := .tup ws) nt
    have ht : upd H4 t (.tup ws) t = some (.tup ws) := upd_same
    generalize upd H4 t (.tup ws) = H5 at x6 ht ⊢
    have ht0' : H5 t0 = some (.tup [.str e.word]) := ((x2.trans g1).trans x6).tup ht0
    have x05 := (x02.trans g1).trans x6
    have ne : ws ≠ [] := fun z => by
      have := g4.len
      rw [z, List.length_map] at this
      have k2 : (mkl e.kids n (gr ρ)).length = e.kids.length := mkl_len _ _ _
      rw [k2, List.length_nil] at this
      omega
    refine ⟨t0, t, _, _, rfl, rfl, SqT.of ht0', SqT.of ht, (fun z => nomatch z), Nat.le_of_lt (small1000 (by rw [List.length_cons, List.length_nil]; omega)), fun z => absurd z ne, fun _ t2 nt2 => ?_⟩
    have x7 := Ext.new (ms := []) (o := .tup ([.str e.word] ++ ws)) nt2
    exact q _ _ (x05.trans x7) (.tup (SqT.of upd_same) (.cons (.str _) (DpAll.ext (x6.trans x7) _ _ g4)))
theorem ok_l_cut (T : Tx K mg) : ∀ d : Nat, FnOk P w K mg base CX0 (d + 2) T.l_cut.f T.l_cut.d P_l_cut (spLCut K d)
  | 0 => (fn_never 2).imp fun vs H Q E ⟨v, e, _, _, _, _, _, _, _, _, _, _, _, _, _, _, _, h, _⟩ => by cases e <;> simp [Env.E.hgt] at h
  | n + 1 => ok_l_cut_step T n (ok_l_cut T n)
end
end Env
end
section
set_option Elab.async false
set_option linter.all false
set_option maxRecDepth 100000
set_option maxHeartbeats 4000000
namespace Env
open PySem L2
abbrev Fl := Int × E × Int × (Int → Option Int)
def E.flHd : E → Int → (Int → Option Int) → List Fl
  | .efun k b, n, ρ => [(k, b, n, ρ)]
  | _, _, _ => []
/-- the names' sites around the i-th part -/
def E.scAt : E → Int → (Int → Option Int) → Nat → (Int → Option Int)
  | .efun k _, n, ρ, _ => st ρ k (some n)
  | .elet k _ _, n, ρ, 2 => st ρ k (some n)
  | _, _, ρ, _ => ρ
def flIts : List (Int ⊕ E) → Int → Nat → (Nat → Int → Option Int) → List Fl
  | [], _, _, _ => []
  | .inl _ :: r, m, j, f => flIts r m (j + 1) f
  | .inr c :: r, m, j, f => c.fl m (f j) ++ flIts r (m + c.sites) (j + 1) f
theorem flIts_app : ∀ (a b : List (Int ⊕ E)) (m : Int) (j : Nat) (f : Nat → Int → Option Int), flIts (a ++ b) m j f = flIts a m j f ++ flIts b (m + sitesOf a) (j + a.length) f
  | [], b, m, j, f => by simp [flIts, sitesOf]
  | .inl _ :: r, b, m, j, f => by
    show flIts (r ++ b) m (j + 1) f = flIts r m (j + 1) f ++ flIts b (m + sitesOf r) (j + (r.length + 1)) f
    rw [flIts_app r b m (j + 1) f, show j + 1 + r.length = j + (r.length + 1) by omega]
  | .inr c :: r, b, m, j, f => by
    show c.fl m (f j) ++ flIts (r ++ b) (m + c.sites) (j + 1) f = (c.fl m (f j) ++ flIts r (m + c.sites) (j + 1) f) ++ flIts b (m + (c.sites + sitesOf r)) (j + (r.length + 1)) f
    rw [flIts_app r b (m + c.sites) (j + 1) f, show j + 1 + r.length = j + (r.length + 1) by omega, show m + c.sites + sitesOf r = m + (c.sites + sitesOf r) by omega, List.append_assoc]
def E.flTo (e : E) (n : Int) (ρ : Int → Option Int) (i : Nat) : List Fl := e.flHd n ρ ++ flIts (e.its.take i) (n + bI e.binds) 0 (e.scAt n ρ)
theorem E.flTo_all {e : E} {n : Int} {ρ : Int → Option Int} {i : Nat} (h : e.its.length ≤ i) : e.flTo n ρ i = e.fl n ρ := by
  unfold Env.E.flTo
  rw [List.take_of_length_le h]
  cases e <;> simp [Env.E.flHd, Env.E.its, flIts, Env.E.fl, Env.E.scAt, Env.E.binds, bI, List.append_assoc]
theorem E.flTo_num {e : E} {n : Int} {ρ : Int → Option Int} {i : Nat} {k : Int} (h : e.its[i]? = some (.inl k)) : e.flTo n ρ (i + 1) = e.flTo n ρ i := by
  unfold Env.E.flTo
  rw [List.take_succ, h, flIts_app]
  simp [flIts]
theorem E.flTo_sub {e c : E} {n : Int} {ρ : Int → Option Int} {i : Nat} (h : e.its[i]? = some (.inr c)) : e.flTo n ρ (i + 1) = e.flTo n ρ i ++ c.fl (n + bI e.binds + sitesOf (e.its.take i)) (e.scAt n ρ i) := by
  have hl : (e.its.take i).length = i := by
    rw [List.length_take]
    have := (List.getElem?_eq_some_iff.mp h).1
    omega
  unfold Env.E.flTo
  rw [List.take_succ, h, flIts_app, hl]
  simp [flIts]
theorem MIts.at {K : PySem.W.Frag} {H : Hp} : ∀ {vs : List V} {l : List (Int ⊕ E)} {n : Int} {i : Nat} {v : V}, MIts K H vs l n → vs[i]? = some v → (∃ m, l[i]? = some (.inl m) ∧ v = .int m) ∨ ∃ c, l[i]? = some (.inr c) ∧ MT K H v c (n + sitesOf (l.take i))
  | [], _, _, _, _, _, z => by simp at z
  | _ :: _, .inl m :: _, _, 0, _, ⟨a, _⟩, z => .inl ⟨m, rfl, by cases z; exact a⟩
  | _ :: _, .inr c :: _, n, 0, _, ⟨a, _⟩, z => .inr ⟨c, rfl, by cases z; rw [List.take_zero, show n + sitesOf [] = n from Int.add_zero n]; exact a⟩
  | _ :: vs, .inl m :: l, n, i + 1, v, ⟨_, b⟩, z => by
    rcases MIts.at (i := i) b z with h | ⟨c, h1, h2⟩
    · exact .inl h
    · exact .inr ⟨c, h1, h2⟩
  | _ :: vs, .inr e :: l, n, i + 1, v, ⟨_, b⟩, z => by
    rcases MIts.at (i := i) b z with h | ⟨c, h1, h2⟩
    · exact .inl h
    · refine .inr ⟨c, h1, ?_⟩
      rw [List.take_succ_cons]
      show MT K H v c (n + (e.sites + sitesOf (l.take i)))
      rw [← Int.add_assoc]
      exact h2
  | _ :: _, [], _, _, _, h, _ => h.elim
theorem E.fl_len : ∀ (e : E) (n : Int) (ρ : Int → Option Int), (e.fl n ρ).length ≤ e.size
  | .num _, _, _ => Nat.zero_le _
  | .nam _, _, _ => Nat.zero_le _
  | .plus a b, n, ρ => by have := a.fl_len n ρ; have := b.fl_len (n + a.sites) ρ; simp only [Env.E.fl, Env.E.size, List.length_append]; omega
  | .call a b, n, ρ => by have := a.fl_len n ρ; have := b.fl_len (n + a.sites) ρ; simp only [Env.E.fl, Env.E.size, List.length_append]; omega
  | .eif a b c, n, ρ => by have := a.fl_len n ρ; have := b.fl_len (n + a.sites) ρ; have := c.fl_len (n + a.sites + b.sites) ρ; simp only [Env.E.fl, Env.E.size, List.length_append]; omega
  | .elet k a b, n, ρ => by have := a.fl_len (n + 1) ρ; have := b.fl_len (n + 1 + a.sites) (st ρ k (some n)); simp only [Env.E.fl, Env.E.size, List.length_append]; omega
  | .efun k a, n, ρ => by have := a.fl_len (n + 1) (st ρ k (some n)); simp only [Env.E.fl, Env.E.size, List.length_cons]; omega
theorem E.flTo_len (e : E) (n : Int) (ρ : Int → Option Int) (i : Nat) : (e.flTo n ρ i).length ≤ e.size := by
  have h := e.fl_len n ρ
  rw [← E.flTo_all (e := e) (n := n) (ρ := ρ) (Nat.le_refl _)] at h
  unfold Env.E.flTo at h ⊢
  have hs : e.its.take e.its.length = e.its.take i ++ e.its.drop i := by rw [List.take_length, List.take_append_drop]
  rw [hs, flIts_app] at h
  simp only [List.length_append] at h ⊢
  omega
/-- (a fun's marked text, the names' sites around it) -/
def FL1 (K : PySem.W.Frag) (H : Hp) (v : V) (x : Fl) : Prop := ∃ t vm d kvs, v = .ref t ∧ SqT K H t [vm, .ref d] ∧ MT K H vm (.efun x.1 x.2.1) x.2.2.1 ∧ H d = some (.dK kvs) ∧ kvs.length ≤ 90 ∧ Says kvs x.2.2.2
def FLs (K : PySem.W.Frag) (H : Hp) : List V → List Fl → Prop
  | [], [] => True
  | v :: vs, x :: xs => FL1 K H v x ∧ FLs K H vs xs
  | _, _ => False
theorem FL1.ext {K : PySem.W.Frag} {ms : List Addr} {H H' : Hp} {v : V} {y : Fl} (x : Ext ms H H') (h : FL1 K H v y) : FL1 K H' v y :=
  let ⟨t, vm, d, kvs, a, b, c, e, f⟩ := h; ⟨t, vm, d, kvs, a, x.seqT b, MT.ext x c, x.dk e, f⟩
theorem FLs.ext {K : PySem.W.Frag} {ms : List Addr} {H H' : Hp} (x : Ext ms H H') : ∀ {vs : List V} {l : List Fl}, FLs K H vs l → FLs K H' vs l
  | [], [], _ => trivial
  | _ :: _, _ :: _, ⟨a, b⟩ => ⟨a.ext x, b.ext x⟩
  | [], _ :: _, h => h.elim
  | _ :: _, [], h => h.elim
theorem FLs.app {K : PySem.W.Frag} {H : Hp} : ∀ {vs ws : List V} {l m : List Fl}, FLs K H vs l → FLs K H ws m → FLs K H (vs ++ ws) (l ++ m)
  | [], _, [], _, _, h => h
  | _ :: _, _, _ :: _, _, ⟨a, b⟩, h => ⟨a, b.app h⟩
  | [], _, _ :: _, _, h, _ => h.elim
  | _ :: _, _, [], _, h, _ => h.elim
theorem FLs.len {K : PySem.W.Frag} {H : Hp} : ∀ {vs : List V} {l : List Fl}, FLs K H vs l → vs.length = l.length
  | [], [], _ => rfl
  | _ :: _, _ :: _, ⟨_, b⟩ => congrArg (· + 1) b.len
  | [], _ :: _, h => h.elim
  | _ :: _, [], h => h.elim
theorem FLs.at {K : PySem.W.Frag} {H : Hp} : ∀ {vs : List V} {l : List Fl} {i : Nat} {v : V}, FLs K H vs l → vs[i]? = some v → ∃ x, l[i]? = some x ∧ FL1 K H v x
  | [], _, _, _, _, z => by simp at z
  | _ :: _, x :: _, 0, _, ⟨a, _⟩, z => ⟨x, rfl, by cases z; exact a⟩
  | _ :: _, _ :: _, i + 1, _, ⟨_, b⟩, z => b.at (i := i) z
  | _ :: _, [], _, _, h, _ => h.elim
theorem fl_ok : ∀ (e : E) (n : Int) (ρ : Int → Option Int) (S : Int → Prop), e.ok S → (∀ j, S j → ∃ s, ρ j = some s) → ∀ x ∈ e.fl n ρ, ∃ S' : Int → Prop, (∀ j, S' j → ∃ s, x.2.2.2 j = some s) ∧ (E.efun x.1 x.2.1).ok S'
  | .num _, _, _, _, _, _, _, h => nomatch h
  | .nam _, _, _, _, _, _, _, h => nomatch h
  | .plus a b, n, ρ, S, ⟨ha, hb⟩, hS, x, h => by
    simp only [Env.E.fl, List.mem_append] at h
    exact h.elim (fl_ok a _ _ S ha hS x) (fl_ok b _ _ S hb hS x)
  | .call a b, n, ρ, S, ⟨ha, hb⟩, hS, x, h => by
    simp only [Env.E.fl, List.mem_append] at h
    exact h.elim (fl_ok a _ _ S ha hS x) (fl_ok b _ _ S hb hS x)
  | .eif a b c, n, ρ, S, ⟨ha, hb, hc⟩, hS, x, h => by
    simp only [Env.E.fl, List.mem_append] at h
    exact h.elim (fun h => h.elim (fl_ok a _ _ S ha hS x) (fl_ok b _ _ S hb hS x)) (fl_ok c _ _ S hc hS x)
  | .elet k a b, n, ρ, S, ⟨_, _, ha, hb⟩, hS, x, h => by
    simp only [Env.E.fl, List.mem_append] at h
    refine h.elim (fl_ok a _ _ S ha hS x) (fl_ok b _ _ _ hb (fun j hj => ?_) x)
    unfold st
    by_cases e : j = k
    · rw [if_pos e]; exact ⟨n, rfl⟩
    · rw [if_neg e]; exact hS j (hj.resolve_left e)
  | .efun k b, n, ρ, S, ok, hS, x, h => by
    simp only [Env.E.fl, List.mem_cons] at h
    rcases h with rfl | h
    · exact ⟨S, hS, ok⟩
    · refine fl_ok b _ _ _ ok.2.2 (fun j hj => ?_) x h
      unfold st
      by_cases e : j = k
      · rw [if_pos e]; exact ⟨n, rfl⟩
      · rw [if_neg e]; exact hS j (hj.resolve_left e)
end Env
end
section
set_option Elab.async false
set_option linter.all false
set_option maxRecDepth 100000
set_option maxHeartbeats 4000000
namespace Env
open PySem L2
local macro_rules | `(tactic| walk_at "side") => `(tactic| first
  | assumption
  | ((try dsimp only); omega)
  | decide
  | exact ⟨by omega, by omega⟩
  | exact .inr ⟨by decide, by decide⟩
  | exact .inl ⟨by omega, by omega⟩)
local macro_rules | `(tactic| walk_at "rd1") => `(tactic| first
  | with_reducible refine Exists.intro _ (And.intro rfl ?_)
  | refine Exists.intro _ (And.intro rfl ?_)
  | refine ⟨_, _, rfl, rfl, ?_⟩
  | refine And.intro rfl ?_
  | refine ⟨_, _, _, _, rfl, rfl, SqL.of (by assumption), rfl, ?_⟩
  | refine ⟨_, _, _, _, rfl, rfl, SqL.of upd_same, rfl, ?_⟩
  | refine And.intro (szb rfl) ?_
  | refine And.intro (Or.inl (And.intro rfl (Exists.intro _ (SqL.of (by assumption))))) ?_
  | refine Or.inl (Exists.intro _ (And.intro rfl ?_))
  | refine Or.inr (Exists.intro _ (And.intro rfl ?_))
  | refine And.intro (by walk_at "side") ?_
  | refine ⟨_, _, _, _, rfl, rfl, (by assumption), rfl, ?_⟩
  | refine ⟨_, _, _, _, rfl, rfl, upd_same, rfl, ?_⟩
  | refine ⟨_, _, rfl, .inl (SqL.of (by assumption)), ?_⟩
  | refine ⟨_, _, rfl, .inl (SqL.of upd_same), ?_⟩
  | refine ⟨_, _, rfl, .inl (by assumption), ?_⟩)
local macro_rules | `(tactic| walk_at "rd") => `(tactic| repeat walk_at "rd1")
local macro_rules | `(tactic| walk_at "ds") => `(tactic| dsimp only [tNil, tCons, tC, tNoPart, tPart, tCB, tOp, tTest, tB, tCall, List.nil_append, List.cons_append, List.append_nil])
local macro_rules | `(tactic| walk_at "tup") => `(tactic| (intro t nt))

section
variable {P : Program} {w : World} {K : PySem.W.Frag} {mg : Str → Option Value} {base : Heap}
def spLFuns (K : PySem.W.Frag) (d : Nat) : Sp := fun vs H Q _ => ∃ (v : V) (e : E) (n : Int) (a : Addr) (kvs : List (Key × V)) (ρ : Int → Option Int), vs = [v, .ref a] ∧ MT K H v e n ∧ e.hgt ≤ d ∧ e.size ≤ 60 ∧ H a = some (.dK kvs) ∧ kvs.length + d ≤ 90 ∧ Says kvs ρ ∧
  ∀ (p : Addr) (H' : Hp) (ws : List V), Ext [] H H' → H p = none → H' p = some (.lst ws) → FLs K H' ws (e.fl n ρ) → Q (.ref p) H'
theorem ok_l_funs_step (T : Tx K mg) (d : Nat) (G_l_funs : FnOk P w K mg base CX0 (d + 2) T.l_funs.f T.l_funs.d P_l_funs (spLFuns K d)) :
    FnOk P w K mg base CX0 (d + 3) T.l_funs.f T.l_funs.d P_l_funs (spLFuns K (d + 1)) := by
  refine T.l_funs.F.ok sc_l_funs (fun vs H Q E h => ?_) (fun cdv A outer s' H vs Q X hr hsp => ?_)
  · obtain ⟨v, e, n, a, kvs, ρ, rfl, _⟩ := h
    rfl
  obtain ⟨v, e, n, a, kvs, ρ, rfl, me, eh, es, ha, hk, sy, q⟩ := hsp
  refine ⟨_, (pss_cons (ps_set (i := 2) sc_l_funs.nd rfl (Or.inl rfl) (pe_ifExp (pt_cmpR op_eq (pe_ix (ixT (K := K) rfl) (pv 0) pe_int (fun _ _ => rfl)) pe_str (nomark _)) (pe_lst (pa_cons (pe_tup (pa_cons (pv 0) (pa_cons (pv 1) pa_nil))) pa_nil)) (pe_lst pa_nil)))
    (pss_cons (ps_for PassesOwn.never rfl (pi_range2 (by rfl) T.B.b_range (pa_cons pe_int (pa_cons (pe_callB (id := "len") (lenS (K := K) rfl) (by rfl) T.B.b_len (by decide +kernel) (pa_cons (pv 0) pa_nil)) pa_nil))) (pg_name (i := 3) sc_l_funs.nd rfl (Or.inl rfl)) (pss_one (ps_if (pt_val (pe_callB (id := "isinstance") (isiK (K := K) rfl) (by rfl) T.B.b_isinstance (by decide +kernel) (pa_cons (pe_ix (ixT (K := K) rfl) (pv 0) (pv 3) (fun _ _ => rfl)) (pa_cons (pe_bltn (v := .ty "tuple") (u := .type "tuple") (by rfl) T.B.b_tuple (by decide +kernel) rfl) pa_nil)))) (pss_cons (ps_set (i := 4) sc_l_funs.nd rfl (Or.inl rfl) (pe_or (pe_cmpR op_eq (pe_ix (ixT (K := K) rfl) (pv 0) pe_int (fun _ _ => rfl)) pe_str (nomark _)) (pe_one (pe_and (pe_cmpR op_eq (pe_ix (ixT (K := K) rfl) (pv 0) pe_int (fun _ _ => rfl)) pe_str (nomark _)) (pe_one (pe_cmpR op_eq (pv 3) pe_int (nomark _)))))))
    (pss_one (ps_set (i := 2) sc_l_funs.nd rfl (Or.inl rfl) (pe_op op_cat (pv 2) (pe_cl T.l_funs (G_l_funs) hr (by first | decide | omega) (by rfl) (pa_cons (pe_ix (ixT (K := K) rfl) (pv 0) (pv 3) (fun _ _ => rfl)) (pa_cons (pe_ifExp (pt_val (pv 4)) (pe_cl T.l_bound (ok_l_boundG T) hr (by first | decide | omega) (by rfl) (pa_cons (pv 1) (pa_cons (pe_ix (ixT (K := K) rfl) (pv 0) pe_int (fun _ _ => rfl)) (pa_cons (pe_ix (ixT (K := K) rfl) (pv 0) pe_int (fun _ _ => rfl)) pa_nil)))) (pv 1)) pa_nil))))))) pss_nil)))
    (pss_one (ps_ret (pv 2))))), ?_⟩
  have at1 : ∀ x y : V, ∀ l : List V, atI (x :: y :: l) 1 = some y := fun x y l => atI_nat (j := 1) rfl
  obtain ⟨p, vs, rfl, hp, hi⟩ := me.node
  have hil := hi.len
  have hel := e.its_len
  refine seq_cut (fun σ' H' => ∃ (L : Addr) (ws : List V), Ext [] H H' ∧ H L = none ∧ H' L = some (.lst ws) ∧ FLs K H' ws (e.flHd n ρ) ∧ σ' = [some (.ref p), some (.ref a), some (.ref L), none, none]) (fun rest => ?main) ?rest
  case main =>
    walk_at "rd"
    refine ⟨p, _, 1, _, rfl, rfl, hp, at1 _ _ _, ?_⟩
    walk_at "rd"
    by_cases hf : ∃ k b, e = .efun k b
    · obtain ⟨k, b, rfl⟩ := hf
      refine ite2 (fun _ => ?_) (fun c => absurd wq_fun_fun c)
      walk_at "rd"
      intro t nt
      have x1 := Ext.new (ms := []) (o := .tup [.ref p, .ref a]) nt
      have ht : upd H t (.tup [.ref p, .ref a]) t = some (.tup [.ref p, .ref a]) := upd_same
      generalize upd H t (.tup [.ref p, .ref a]) = H1 at x1 ht ⊢
      walk_at "rd"
      intro L nL
      have x2 := Ext.new (ms := []) (o := .lst [.ref t]) nL
      exact rest _ _ ⟨L, _, x1.trans x2, x1.fresh0 nL, upd_same, ⟨⟨t, .ref p, a, kvs, rfl, SqT.of (x2.tup ht), MT.ext (x1.trans x2) me, (x1.trans x2).dk ha, by omega, sy⟩, trivial⟩, rfl⟩
    · have hw : decide (V.str e.word = V.str "fun") = false := by
        cases e with
        | efun n b => exact absurd ⟨n, b, rfl⟩ hf
        | _ => first | exact wq_num_fun | exact wq_name_fun | exact wq_plus_fun | exact wq_let_fun | exact wq_call_fun | exact wq_if_fun
      refine ite2 (fun c => absurd c (by rw [hw]; decide)) (fun _ => ?_)
      walk_at "rd"
      intro L nL
      have x2 := Ext.new (ms := []) (o := .lst []) nL
      refine rest _ _ ⟨L, [], x2, nL, upd_same, ?_, rfl⟩
      cases e with
      | efun n b => exact absurd ⟨n, b, rfl⟩ hf
      | _ => exact trivial
  rintro σ' H1 ⟨L, ws, x1, nL, hL, hf, rfl⟩
  walk_at "rd"
  refine ⟨p, _, rfl, .inr (x1.seqT hp), ?_⟩
  walk_at "rd"
  have hlen : ((V.int (e.here n) :: V.str e.word :: vs).length : Int) = 2 + (vs.length : Int) := by rw [List.length_cons, List.length_cons]; omega
  refine ⟨2, _, rfl, ⟨by omega, by omega, by omega, by omega⟩, ?_⟩
  have hn2 : (((V.int (e.here n) :: V.str e.word :: vs).length : Nat) - 2 : Int).toNat = vs.length := by omega
  rw [hn2]
  refine for_range (lo := 2) (n := vs.length) (fun i σ H' => ∃ (L : Addr) (ws : List V) (o3 o4 : Option V), Ext [] H H' ∧ H L = none ∧ H' L = some (.lst ws) ∧ FLs K H' ws (e.flTo n ρ i) ∧ σ = [some (.ref p), some (.ref a), some (.ref L), o3, o4])
    ⟨L, ws, none, none, x1, nL, hL, by unfold Env.E.flTo; rw [List.take_zero]; simp only [flIts, List.append_nil]; exact hf, rfl⟩ ?_ ?_
  · clear hf hL nL x1
    rintro i σ H2 hi2 ⟨L, ws, o3, o4, x2, nL, hL, hf, rfl⟩
    obtain ⟨y, hy⟩ : ∃ y, vs[i]? = some y := ⟨_, List.getElem?_eq_getElem hi2⟩
    have hy2 : (V.int (e.here n) :: V.str e.word :: vs)[2 + i]? = some y := by
      rw [show 2 + i = i + 2 by omega]; exact hy
    have hp2 := x2.seqT hp
    walk_at "rd"
    refine ⟨p, _, (2 + (i : Nat) : Int), y, rfl, rfl, hp2, ?_, ?_⟩
    · have := atI_nat hy2
      rw [show ((2 + i : Nat) : Int) = 2 + (i : Nat) by omega] at this
      exact this
    walk_at "rd"
    rcases (hi.ext x2).at hy with ⟨m, hm, rfl⟩ | ⟨c, hc, mc⟩
    · walk_at "ds"
      refine isi_int ?_
      walk_at "rd"
      exact ⟨L, ws, _, _, x2, nL, hL, by rw [E.flTo_num hm]; exact hf, rfl⟩
    · obtain ⟨pc, xc, rfl, hpc⟩ := mc.ref
      walk_at "ds"
      refine isi_tup hpc ?_
      have hcm := List.mem_of_getElem? hc
      have ch := E.its_hgt eh hcm
      have cs := E.its_size hc
      have fl1 := e.flTo_len n ρ i
      have fl2 := c.fl_len (n + bI e.binds + sitesOf (e.its.take i)) (e.scAt n ρ i)
      have wl := hf.len
      walk_at "rd"
      have hat : atI (V.int (e.here n) :: V.str e.word :: vs) (2 + (i : Nat) : Int) = some (.ref pc) := by
        have := atI_nat hy2
        rw [show ((2 + i : Nat) : Int) = 2 + (i : Nat) by omega] at this
        exact this
      refine ⟨p, _, 1, _, rfl, rfl, hp2, at1 _ _ _, ?_⟩
      walk_at "rd"
      refine ite2 (fun hw => ?_) (fun hw => ?_)
      · obtain ⟨k, b, rfl⟩ : ∃ k b, e = .efun k b := by
          cases e with
          | efun k b => exact ⟨k, b, rfl⟩
          | num _ => exact absurd hw (by rw [show (E.num _).word = "num" from rfl, wq_num_fun]; decide)
          | nam _ => exact absurd hw (by rw [show (E.nam _).word = "name" from rfl, wq_name_fun]; decide)
          | plus _ _ => exact absurd hw (by rw [show (E.plus _ _).word = "plus" from rfl, wq_plus_fun]; decide)
          | elet _ _ _ => exact absurd hw (by rw [show (E.elet _ _ _).word = "let" from rfl, wq_let_fun]; decide)
          | call _ _ => exact absurd hw (by rw [show (E.call _ _).word = "call" from rfl, wq_call_fun]; decide)
          | eif _ _ _ => exact absurd hw (by rw [show (E.eif _ _ _).word = "if" from rfl, wq_if_fun]; decide)
        obtain ⟨p3, z3, ep3, hp3, mb3⟩ := id me
        cases ep3
        have hp4 := x2.seqT hp3
        walk_at "rd"
        refine ⟨p, _, (2 + (i : Nat) : Int), _, rfl, rfl, hp2, hat, ?_⟩
        walk_at "rd"
        refine ⟨a, k, .int n, kvs, rfl, x2.dk ha, by omega, fun b2 H3 x3 nb hb => ?_⟩
        have hlen2 := length_putK kvs (Sum.inl k) (V.int n)
        have hsc : (E.efun k b).scAt n ρ i = st ρ k (some n) := rfl
        rw [hsc] at fl2
        walk_at "rd"
        refine ⟨_, c, _, b2, _, _, rfl, MT.ext x3 mc, by omega, by omega, hb, by omega, sy.put k (some n), fun r H5 zs x5 nr hr hz => ?_⟩
        have zl := hz.len
        have x25 : Ext [] H2 H5 := x3.trans x5
        refine ⟨L, r, ws, zs, rfl, rfl, x25.lst (fun z => nomatch z) hL, hr, Nat.le_of_lt (small1000 (by omega)), fun L2 nL2 => ?_⟩
        have x26 := x25.nw (o := .lst (ws ++ zs)) nL2
        refine ⟨L2, _, _, _, x2.trans x26, x2.fresh0 (x25.fresh0 nL2), upd_same, ?_, rfl⟩
        rw [E.flTo_sub hc, hsc]
        exact (hf.ext x26).app (hz.ext (Ext.new (ms := []) nL2))
      · have hwf : ∀ k b, e ≠ .efun k b := fun k b z => hw (by rw [z]; exact wq_fun_fun)
        walk_at "rd"
        refine ⟨p, _, 1, _, rfl, rfl, hp2, at1 _ _ _, ?_⟩
        walk_at "rd"
        refine ite2 (fun hw2 => ?_) (fun hw2 => ?_)
        · obtain ⟨k, b1, b2, rfl⟩ : ∃ k b1 b2, e = .elet k b1 b2 := by
            cases e with
            | elet k b1 b2 => exact ⟨k, b1, b2, rfl⟩
            | num _ => exact absurd hw2 (by rw [show (E.num _).word = "num" from rfl, wq_num_let]; decide)
            | nam _ => exact absurd hw2 (by rw [show (E.nam _).word = "name" from rfl, wq_name_let]; decide)
            | plus _ _ => exact absurd hw2 (by rw [show (E.plus _ _).word = "plus" from rfl, wq_plus_let]; decide)
            | efun k b => exact absurd rfl (hwf k b)
            | call _ _ => exact absurd hw2 (by rw [show (E.call _ _).word = "call" from rfl, wq_call_let]; decide)
            | eif _ _ _ => exact absurd hw2 (by rw [show (E.eif _ _ _).word = "if" from rfl, wq_if_let]; decide)
          obtain ⟨p3, z3, z4, ep3, hp3, mb3, mb4⟩ := id me
          cases ep3
          have hp4 := x2.seqT hp3
          walk_at "rd"
          by_cases hi3 : i = 2
          · subst hi3
            have h4 : decide (V.int (2 + ((2 : Nat) : Int)) = V.int 4) = true := decide_eq_true rfl
            rw [h4]
            refine ⟨p, _, _, _, rfl, rfl, hp2, hat, ?_⟩
            walk_at "rd"
            refine ⟨a, k, .int n, kvs, rfl, x2.dk ha, by omega, fun b2' H3 x3 nb hb => ?_⟩
            have hlen2 := length_putK kvs (Sum.inl k) (V.int n)
            have hsc : (E.elet k b1 b2).scAt n ρ 2 = st ρ k (some n) := rfl
            rw [hsc] at fl2
            walk_at "rd"
            refine ⟨_, c, _, b2', _, _, rfl, MT.ext x3 mc, by omega, by omega, hb, by omega, sy.put k (some n), fun r H5 zs x5 nr hr hz => ?_⟩
            have zl := hz.len
            have x25 : Ext [] H2 H5 := x3.trans x5
            refine ⟨L, r, ws, zs, rfl, rfl, x25.lst (fun z => nomatch z) hL, hr, Nat.le_of_lt (small1000 (by omega)), fun L2 nL2 => ?_⟩
            have x26 := x25.nw (o := .lst (ws ++ zs)) nL2
            refine ⟨L2, _, _, _, x2.trans x26, x2.fresh0 (x25.fresh0 nL2), upd_same, ?_, rfl⟩
            rw [E.flTo_sub hc, hsc]
            exact (hf.ext x26).app (hz.ext (Ext.new (ms := []) nL2))
          · have h4 : decide (V.int (2 + (i : Int)) = V.int 4) = false := decide_eq_false fun z => hi3 (by have := V.int.inj z; omega)
            rw [h4]
            refine ⟨p, _, _, _, rfl, rfl, hp2, hat, ?_⟩
            walk_at "rd"
            have hsc : (E.elet k b1 b2).scAt n ρ i = ρ := by
              unfold Env.E.scAt
              split <;> simp_all
            rw [hsc] at fl2
            walk_at "rd"
            refine ⟨_, c, _, a, kvs, _, rfl, mc, by omega, by omega, x2.dk ha, by omega, sy, fun r H5 zs x5 nr hr hz => ?_⟩
            have zl := hz.len
            have x25 : Ext [] H2 H5 := x5
            refine ⟨L, r, ws, zs, rfl, rfl, x25.lst (fun z => nomatch z) hL, hr, Nat.le_of_lt (small1000 (by omega)), fun L2 nL2 => ?_⟩
            have x26 := x25.nw (o := .lst (ws ++ zs)) nL2
            refine ⟨L2, _, _, _, x2.trans x26, x2.fresh0 (x25.fresh0 nL2), upd_same, ?_, rfl⟩
            rw [E.flTo_sub hc, hsc]
            exact (hf.ext x26).app (hz.ext (Ext.new (ms := []) nL2))
        · have hwl : ∀ k b c, e ≠ .elet k b c := fun k b c z => hw2 (by rw [z]; exact wq_let_let)
          walk_at "rd"
          have hsc : e.scAt n ρ i = ρ := by
            cases e with
            | efun k b => exact absurd rfl (hwf k b)
            | elet k b c => exact absurd rfl (hwl k b c)
            | _ => rfl
          rw [hsc] at fl2
          refine ⟨p, _, _, _, rfl, rfl, hp2, hat, ?_⟩
          walk_at "rd"
          refine ⟨_, c, _, a, kvs, _, rfl, mc, by omega, by omega, x2.dk ha, by omega, sy, fun r H5 zs x5 nr hr hz => ?_⟩
          have zl := hz.len
          have x25 : Ext [] H2 H5 := x5
          refine ⟨L, r, ws, zs, rfl, rfl, x25.lst (fun z => nomatch z) hL, hr, Nat.le_of_lt (small1000 (by omega)), fun L2 nL2 => ?_⟩
          have x26 := x25.nw (o := .lst (ws ++ zs)) nL2
          refine ⟨L2, _, _, _, x2.trans x26, x2.fresh0 (x25.fresh0 nL2), upd_same, ?_, rfl⟩
          rw [E.flTo_sub hc, hsc]
          exact (hf.ext x26).app (hz.ext (Ext.new (ms := []) nL2))
  · rintro σ H2 ⟨L, ws, o3, o4, x2, nL, hL, hf, rfl⟩
    walk_at "rd"
    rw [E.flTo_all (by omega)] at hf
    exact q L H2 ws x2 nL hL hf
theorem ok_l_funs (T : Tx K mg) : ∀ d : Nat, FnOk P w K mg base CX0 (d + 2) T.l_funs.f T.l_funs.d P_l_funs (spLFuns K d)
  | 0 => (fn_never 2).imp fun vs H Q E ⟨v, e, _, _, _, _, _, _, h, _⟩ => by cases e <;> simp [Env.E.hgt] at h
  | n + 1 => ok_l_funs_step T n (ok_l_funs T n)
end
end Env
end
section
set_option Elab.async false
set_option linter.all false
set_option maxRecDepth 100000
set_option maxHeartbeats 4000000
namespace Env
open PySem L2
/-! ### what alike looks through -/
theorem sh_own : SeqAt.shaped (.str "own") = true := by decide +kernel
theorem sh_copy : SeqAt.shaped (.str "copy") = true := by decide +kernel
theorem sh_num : SeqAt.shaped (.str "num") = true := by decide +kernel
theorem sh_let : SeqAt.shaped (.str "let") = true := by decide +kernel
theorem sh_make : SeqAt.shaped (.str "make") = true := by decide +kernel
theorem sh_plus : SeqAt.shaped (.str "plus") = true := by decide +kernel
theorem sh_call : SeqAt.shaped (.str "call") = true := by decide +kernel
theorem sh_if : SeqAt.shaped (.str "if") = true := by decide +kernel
theorem fit_src (l : Lay) (s : Int) : fitD 2 (srcD l s) := by
  unfold srcD
  split
  · refine ⟨Nat.le_of_ble_eq_true rfl, fun d hd => ?_⟩
    rcases List.mem_cons.mp hd with rfl | hd
    · exact sh_own
    · rw [List.mem_singleton.mp hd]; trivial
  · refine ⟨Nat.le_of_ble_eq_true rfl, fun d hd => ?_⟩
    rcases List.mem_cons.mp hd with rfl | hd
    · exact sh_copy
    · rw [List.mem_singleton.mp hd]; trivial
theorem fit_cut {l : Lay} {U : Int → List Int} {ls : List (Leaf × Lay)} (hl : ∀ p ∈ ls, p.2.used.length ≤ 60) : ∀ {e : E}, e.cutOk l U ls → fitD (e.hgt + 3) (e.cut l U)
  | .num n, _ => ⟨Nat.le_of_ble_eq_true rfl, fun d hd => by
    rcases List.mem_cons.mp hd with rfl | hd
    · exact sh_num
    · rw [List.mem_singleton.mp hd]; trivial⟩
  | .nam s, _ => (fit_src l s).mono (by simp only [Env.E.hgt]; omega)
  | .plus a b, ⟨ha, hb⟩ => ⟨Nat.le_of_ble_eq_true rfl, fun d hd => by
    simp only [Env.E.hgt]
    rcases List.mem_cons.mp hd with rfl | hd
    · exact sh_plus
    rcases List.mem_cons.mp hd with rfl | hd
    · exact (fit_cut hl ha).mono (by omega)
    · rw [List.mem_singleton.mp hd]; exact (fit_cut hl hb).mono (by omega)⟩
  | .call a b, ⟨ha, hb⟩ => ⟨Nat.le_of_ble_eq_true rfl, fun d hd => by
    simp only [Env.E.hgt]
    rcases List.mem_cons.mp hd with rfl | hd
    · exact sh_call
    rcases List.mem_cons.mp hd with rfl | hd
    · exact (fit_cut hl ha).mono (by omega)
    · rw [List.mem_singleton.mp hd]; exact (fit_cut hl hb).mono (by omega)⟩
  | .eif a b c, ⟨ha, hb, hc⟩ => ⟨Nat.le_of_ble_eq_true rfl, fun d hd => by
    simp only [Env.E.hgt]
    rcases List.mem_cons.mp hd with rfl | hd
    · exact sh_if
    rcases List.mem_cons.mp hd with rfl | hd
    · exact (fit_cut hl ha).mono (by omega)
    rcases List.mem_cons.mp hd with rfl | hd
    · exact (fit_cut hl hb).mono (by omega)
    · rw [List.mem_singleton.mp hd]; exact (fit_cut hl hc).mono (by omega)⟩
  | .elet s a b, ⟨ha, hb⟩ => ⟨Nat.le_of_ble_eq_true rfl, fun d hd => by
    simp only [Env.E.hgt]
    rcases List.mem_cons.mp hd with rfl | hd
    · exact sh_let
    rcases List.mem_cons.mp hd with rfl | hd
    · trivial
    rcases List.mem_cons.mp hd with rfl | hd
    · exact (fit_cut hl ha).mono (by omega)
    · rw [List.mem_singleton.mp hd]; exact (fit_cut hl hb).mono (by omega)⟩
  | .efun s b, ⟨_, y, hy, yu⟩ => ⟨Nat.le_of_ble_eq_true rfl, fun d hd => by
    simp only [Env.E.hgt]
    rcases List.mem_cons.mp hd with rfl | hd
    · exact sh_make
    rcases List.mem_cons.mp hd with rfl | hd
    · trivial
    · rw [List.mem_singleton.mp hd]
      have := hl _ hy
      rw [show ((Leaf.num s, y) : Leaf × Lay).2.used = y.used from rfl, yu] at this
      refine fitD.mono (n := 3) ⟨by rw [List.length_map]; omega, fun d hd => ?_⟩ (by have := b.hgt_pos; omega)
      obtain ⟨u, _, rfl⟩ := List.mem_map.mp hd
      exact fit_src l u⟩
theorem fit_pieces {t : E} (h : Prog t) (hh : t.hgt ≤ 8) (hs : t.size ≤ 60) : fitD 13 (.list (piecesD t)) := by
  have hl : ∀ p ∈ t.lays, p.2.used.length ≤ 60 := fun p hp => lays_used hp hs
  refine ⟨?_, fun d hd => ?_⟩
  · unfold piecesD E.lays
    rw [List.length_map, List.length_cons, List.length_map]
    have := laysOf_len t.pre
    rw [t.pre_len] at this
    omega
  · obtain ⟨p, hp, rfl⟩ := List.mem_map.mp hd
    refine ⟨Nat.le_of_ble_eq_true rfl, fun d hd => ?_⟩
    rcases List.mem_cons.mp hd with rfl | hd
    · cases p.2.site <;> trivial
    rcases List.mem_cons.mp hd with rfl | hd
    · refine ⟨by rw [List.length_map]; have := hl p hp; omega, fun d hd => ?_⟩
      obtain ⟨u, _, rfl⟩ := List.mem_map.mp hd
      trivial
    · rw [List.mem_singleton.mp hd]
      exact (fit_cut hl (h.cutOk hp)).mono (Nat.add_le_add_right (Nat.le_trans (lays_body hp).1 hh) 3)
/-! ### the law's rows, a fun each -/
def RT (K : PySem.W.Frag) (t : E) (H : Hp) (v : V) (x : Int × Lay) : Prop := ∃ r tt u, v = .ref r ∧ H r = some (.tup [.int x.1, .ref tt, u]) ∧ SqT K H tt (x.2.used.map V.int) ∧ Dp K H u (x.2.body.cut x.2 (usesOf t))
def RTs (K : PySem.W.Frag) (t : E) (H : Hp) : List V → List (Int × Lay) → Prop
  | [], [] => True
  | v :: vs, x :: xs => RT K t H v x ∧ RTs K t H vs xs
  | _, _ => False
theorem RT.ext {K : PySem.W.Frag} {ms : List Addr} {t : E} {H H' : Hp} {v : V} {y : Int × Lay} (x : Ext ms H H') (h : RT K t H v y) : RT K t H' v y :=
  let ⟨r, tt, u, a, b, c, d⟩ := h; ⟨r, tt, u, a, x.tup b, x.seqT c, Dp.extT x _ _ (cut_noL _ _ _) d⟩
theorem RTs.ext {K : PySem.W.Frag} {ms : List Addr} {t : E} {H H' : Hp} (x : Ext ms H H') : ∀ {vs : List V} {l : List (Int × Lay)}, RTs K t H vs l → RTs K t H' vs l
  | [], [], _ => trivial
  | _ :: _, _ :: _, ⟨a, b⟩ => ⟨a.ext x, b.ext x⟩
  | [], _ :: _, h => h.elim
  | _ :: _, [], h => h.elim
theorem RTs.len {K : PySem.W.Frag} {t : E} {H : Hp} : ∀ {vs : List V} {l : List (Int × Lay)}, RTs K t H vs l → vs.length = l.length
  | [], [], _ => rfl
  | _ :: _, _ :: _, ⟨_, b⟩ => congrArg (· + 1) b.len
  | [], _ :: _, h => h.elim
  | _ :: _, [], h => h.elim
theorem RTs.snoc {K : PySem.W.Frag} {t : E} {H : Hp} {v : V} {x : Int × Lay} (h : RT K t H v x) : ∀ {vs : List V} {l : List (Int × Lay)}, RTs K t H vs l → RTs K t H (vs ++ [v]) (l ++ [x])
  | [], [], _ => ⟨h, trivial⟩
  | _ :: _, _ :: _, ⟨a, b⟩ => ⟨a, b.snoc h⟩
  | [], _ :: _, q => q.elim
  | _ :: _, [], q => q.elim
/-- a row's number -/
def rowK (H : Hp) : V → Int
  | .ref p => match H p with
    | some (.tup (.int s :: _)) => s
    | _ => 0
  | _ => 0
theorem RT.key {K : PySem.W.Frag} {t : E} {H : Hp} {v : V} {x : Int × Lay} (h : RT K t H v x) : rowK H v = x.1 := by
  obtain ⟨r, tt, u, rfl, b, _⟩ := h
  unfold rowK
  dsimp only
  rw [b]
theorem RTs.keys {K : PySem.W.Frag} {t : E} {H : Hp} : ∀ {vs : List V} {l : List (Int × Lay)}, RTs K t H vs l → vs.map (rowK H) = l.map (·.1)
  | [], [], _ => rfl
  | _ :: _, _ :: _, ⟨a, b⟩ => by rw [List.map_cons, List.map_cons, a.key, b.keys]
  | [], _ :: _, h => h.elim
  | _ :: _, [], h => h.elim
theorem RTs.row {K : PySem.W.Frag} {t : E} {H : Hp} : ∀ {vs : List V} {l : List (Int × Lay)}, RTs K t H vs l → ∀ y ∈ vs, ∃ p zs, y = .ref p ∧ SqT K H p ([rowK H y].map V.int ++ zs)
  | [], [], _, _, h => nomatch h
  | v :: _, x :: _, ⟨a, b⟩, y, h => by
    rcases List.mem_cons.mp h with rfl | h
    · have k := a.key
      obtain ⟨r, tt, u, rfl, b, _⟩ := a
      exact ⟨r, [.ref tt, u], rfl, SqT.of (by rw [k]; exact b)⟩
    · exact b.row y h
  | [], _ :: _, h, _, _ => h.elim
  | _ :: _, [], h, _, _ => h.elim
theorem RTs.dp {K : PySem.W.Frag} {t : E} {H : Hp} (hs : ∀ p ∈ laysOf t.pre, p.2.site = some p.1) : ∀ {vs : List V} {l : List (Int × Lay)}, RTs K t H vs l → (∀ p ∈ l, p.2.site = some p.1) → DpAll K H vs (l.map fun p => pieceD t p.2)
  | [], [], _, _ => .nil
  | _ :: _, x :: _, ⟨⟨r, tt, u, rfl, b, c, d⟩, e⟩, h => by
    refine .cons ?_ (RTs.dp hs e fun p hp => h p (List.mem_cons_of_mem _ hp))
    show Dp K H (.ref r) (pieceD t x.2)
    unfold pieceD
    rw [h x List.mem_cons_self]
    exact .tup (SqT.of b) (.cons (.int _) (.cons (.tup c (dpInts _)) (.cons d .nil)))
  | [], _ :: _, h, _ => h.elim
  | _ :: _, [], h, _ => h.elim
/-- an ascending list, sorted -/
theorem sorted_same {ki : V → Int} {out ys : List V} (hp : out.Perm ys) (ho : out.Pairwise fun y z => SrtO.lexL [ki z] [ki y] = false) (hy : (ys.map ki).Pairwise (· < ·)) : out = ys := by
  have h1 : (out.map ki).Pairwise (· < ·) := by
    have nd : (out.map ki).Nodup := (hp.map ki).nodup_iff.mpr (hy.imp fun h z => by omega)
    have le : (out.map ki).Pairwise (· ≤ ·) := by
      refine List.Pairwise.map _ (fun a b h => ?_) ho
      unfold SrtO.lexL at h
      by_cases e : ki b = ki a
      · omega
      · rw [if_neg e] at h
        have := of_decide_eq_false h
        omega
    exact (le.and nd).imp fun ⟨a, b⟩ => by omega
  have h2 := rise_eq h1 hy fun z => (hp.map ki).mem_iff
  have inj : ∀ a ∈ ys, ∀ b ∈ ys, ki a = ki b → a = b := by
    intro a ha b hb e
    obtain ⟨i, hi, rfl⟩ := List.getElem_of_mem ha
    obtain ⟨j, hj, rfl⟩ := List.getElem_of_mem hb
    rw [List.pairwise_map, List.pairwise_iff_getElem] at hy
    rcases Nat.lt_trichotomy i j with h | h | h
    · have := hy i j hi hj h; omega
    · subst h; rfl
    · have := hy j i hj hi h; omega
  have : ∀ (a b : List V), (∀ x ∈ a, x ∈ ys) → (∀ x ∈ b, x ∈ ys) → a.map ki = b.map ki → a = b := by
    intro a
    induction a with
    | nil => intro b _ _ h; cases b with
      | nil => rfl
      | cons _ _ => cases h
    | cons x a ih =>
      intro b ha hb h
      cases b with
      | nil => cases h
      | cons y b =>
        rw [List.map_cons, List.map_cons] at h
        obtain ⟨h1, h2⟩ := List.cons.inj h
        rw [inj x (ha x List.mem_cons_self) y (hb y List.mem_cons_self) h1, ih b (fun z hz => ha z (List.mem_cons_of_mem _ hz)) (fun z hz => hb z (List.mem_cons_of_mem _ hz)) h2]
  exact this out ys (fun x hx => hp.mem_iff.mp hx) (fun x hx => hx) h2
theorem cutTo1 (x : V) (xs : List V) : cutV (x :: xs) none (some 1) = [x] := by
  unfold cutV
  rw [show HT.sIx (x :: xs).length (x :: xs).length (some 1) = min 1 (x :: xs).length from HT.sIx_nat _ _ 1, HT.sIx_none]
  have : min 1 (x :: xs).length = 1 := by rw [List.length_cons]; omega
  rw [this]
  rfl
end Env
end
section
set_option Elab.async false
set_option linter.all false
set_option maxRecDepth 100000
set_option maxHeartbeats 4000000
namespace Env
open PySem L2
local macro_rules | `(tactic| walk_at "side") => `(tactic| first
  | assumption
  | ((try dsimp only); omega)
  | decide
  | exact ⟨by omega, by omega⟩
  | exact .inr ⟨by decide, by decide⟩
  | exact .inl ⟨by omega, by omega⟩)
local macro_rules | `(tactic| walk_at "rd1") => `(tactic| first
  | with_reducible refine Exists.intro _ (And.intro rfl ?_)
  | refine Exists.intro _ (And.intro rfl ?_)
  | refine ⟨_, _, rfl, rfl, ?_⟩
  | refine And.intro rfl ?_
  | refine ⟨_, _, _, _, rfl, rfl, SqL.of (by assumption), rfl, ?_⟩
  | refine ⟨_, _, _, _, rfl, rfl, SqL.of upd_same, rfl, ?_⟩
  | refine And.intro (szb rfl) ?_
  | refine And.intro (Or.inl (And.intro rfl (Exists.intro _ (SqL.of (by assumption))))) ?_
  | refine Or.inl (Exists.intro _ (And.intro rfl ?_))
  | refine Or.inr (Exists.intro _ (And.intro rfl ?_))
  | refine And.intro (by walk_at "side") ?_
  | refine ⟨_, _, _, _, rfl, rfl, (by assumption), rfl, ?_⟩
  | refine ⟨_, _, _, _, rfl, rfl, upd_same, rfl, ?_⟩
  | refine ⟨_, _, rfl, .inl (SqL.of (by assumption)), ?_⟩
  | refine ⟨_, _, rfl, .inl (SqL.of upd_same), ?_⟩
  | refine ⟨_, _, rfl, .inl (by assumption), ?_⟩)
local macro_rules | `(tactic| walk_at "rd") => `(tactic| repeat walk_at "rd1")
local macro_rules | `(tactic| walk_at "ds") => `(tactic| dsimp only [tNil, tCons, tC, tNoPart, tPart, tCB, tOp, tTest, tB, tCall, List.nil_append, List.cons_append, List.append_nil])
local macro_rules | `(tactic| walk_at "tup") => `(tactic| (intro t nt))

section
variable {P : Program} {w : World} {K : PySem.W.Frag} {mg : Str → Option Value} {base : Heap}
theorem ok_law (T : Tx K mg) (TP : Tp K w mg) (D : Df K mg "law" "law" s_law P_law) :
    FnOk P w K mg base CX0 31 D.f D.d P_law (spLaw K) := by
  refine D.F.ok sc_law (fun vs H Q E h => ?_) (fun cdv A outer s' H vs Q EE hr hsp => ?_)
  · obtain ⟨s, rfl, _⟩ := h
    rfl
  obtain ⟨s, rfl, hs, h63, q⟩ := hsp
  refine ⟨_, (pss_cons (ps_set (i := 1) sc_law.nd rfl (Or.inl rfl) (pe_lst (pa_cons (pv 0) (pa_cons pe_int (pa_cons pe_int (pa_cons pe_int pa_nil))))))
    (pss_cons (ps_for PassesOwn.never rfl (pi_range1 (by rfl) T.B.b_range (pa_cons pe_int pa_nil)) (pg_name (i := 2) sc_law.nd rfl (Or.inl rfl)) (pss_cons (ps_set (i := 3) sc_law.nd rfl (Or.inl rfl) (pe_cl T.l_program (ok_l_program T) hr (by first | decide | omega) (by rfl) (pa_cons (pv 1) (pa_cons pe_int pa_nil))))
    (pss_cons (ps_set (i := 4) sc_law.nd rfl (Or.inl rfl) (pe_cl T.l_marked (ok_l_marked T 9) hr (by first | decide | omega) (by rfl) (pa_cons (pv 3) (pa_cons pe_int pa_nil))))
    (pss_cons (ps_set (i := 5) sc_law.nd rfl (Or.inl rfl) (pe_cl T.l_owners (ok_l_owners T 9) hr (by first | decide | omega) (by rfl) (pa_cons (pv 4) (pa_cons pe_non pa_nil))))
    (pss_cons (ps_set (i := 6) sc_law.nd rfl (Or.inl rfl) (pe_cl T.l_uses (ok_l_uses T 9) hr (by first | decide | omega) (by rfl) (pa_cons (pv 4) (pa_cons pe_dnewK pa_nil))))
    (pss_cons (ps_set (i := 7) sc_law.nd rfl (Or.inl rfl) (pe_lst (pa_cons (pe_tup (pa_cons pe_non (pa_cons (pe_tup pa_nil) (pa_cons (pe_cl T.l_cut (ok_l_cut T 9) hr (by first | decide | omega) (by rfl) (pa_cons (pv 4) (pa_cons pe_dnewK (pa_cons pe_non (pa_cons (pv 5) (pa_cons (pv 6) pa_nil)))))) pa_nil)))) pa_nil)))
    (pss_cons (ps_for PassesOwn.never rfl (piL (K := K) rfl (pe_cl T.l_funs (ok_l_funs T 9) hr (by first | decide | omega) (by rfl) (pa_cons (pv 4) (pa_cons pe_dnewK pa_nil)))) (pg_tup (by rfl) (pgs_cons (pg_name (i := 8) sc_law.nd rfl (Or.inl rfl)) (pgs_cons (pg_name (i := 9) sc_law.nd rfl (Or.inl rfl)) pgs_nil))) (pss_cons (ps_set (i := 10) sc_law.nd rfl (Or.inl rfl) (pe_cl T.l_cut (ok_l_cut T 9) hr (by first | decide | omega) (by rfl) (pa_cons (pe_ix (ixT (K := K) rfl) (pv 8) pe_int (fun _ _ => rfl)) (pa_cons (pe_cl T.l_bound (ok_l_boundG T) hr (by first | decide | omega) (by rfl) (pa_cons (pv 9) (pa_cons (pe_ix (ixT (K := K) rfl) (pv 8) pe_int (fun _ _ => rfl)) (pa_cons (pe_ix (ixT (K := K) rfl) (pv 8) pe_int (fun _ _ => rfl)) pa_nil)))) (pa_cons (pe_ix (ixT (K := K) rfl) (pv 8) pe_int (fun _ _ => rfl)) (pa_cons (pv 5) (pa_cons (pv 6) pa_nil)))))))
    (pss_one (ps_expr (pe_bm PySem.F.plainAttrs_list PySem.F.slot_list_append PySem.F.type_list_append mt_append (pv 7) (pa_cons (pe_tup (pa_cons (pe_ix (ixT (K := K) rfl) (pv 8) pe_int (fun _ _ => rfl)) (pa_cons (pe_callTy (T := "tuple") call_tuple_of (by rfl) T.B.b_tuple (by decide +kernel) (pa_cons (pe_dget (hu_of hr) (pv 6) (pe_ix (ixT (K := K) rfl) (pv 8) pe_int (fun _ _ => rfl)) (fun _ _ => rfl)) pa_nil)) (pa_cons (pv 10) pa_nil)))) pa_nil))))))
    (pss_cons (ps_set (i := 7) sc_law.nd rfl (Or.inl rfl) (pe_op op_cat (pe_slice (slL (K := K) rfl) (pv 7) po_none (po_some pe_int)) (pe_callB (id := "sorted") (cr_sortR (K := K) rfl) (by rfl) T.B.b_sorted (by decide +kernel) (pa_cons (pe_slice (slL (K := K) rfl) (pv 7) (po_some pe_int) po_none) pa_nil))))
    (pss_one (ps_for PassesOwn.never rfl (pi_range1 (by rfl) T.B.b_range (pa_cons pe_int pa_nil)) (pg_name (i := 11) sc_law.nd rfl (Or.inl rfl)) (pss_cons (ps_set (i := 12) sc_law.nd rfl (Or.inl rfl) (pe_cl TP.pieces (ok_pieces TP) hr (by first | decide | omega) (by rfl) (pa_cons (pv 3) pa_nil)))
    (pss_cons (ps_if (pt_not (pt_val (pe_cl T.l_alike (ok_l_alike T 13) hr (by first | decide | omega) (by rfl) (pa_cons (pv 12) (pa_cons (pv 7) pa_nil))))) (pss_one (ps_ret pe_bl)) pss_nil)
    (pss_cons (ps_expr (pe_bm PySem.F.plainAttrs_list PySem.F.slot_list_append PySem.F.type_list_append mt_append (pv 12) (pa_cons (pe_tup pa_nil) pa_nil)))
    (pss_one (ps_expr (pe_bm0 PySem.F.plainAttrs_list PySem.F.slot_list_reverse PySem.F.type_list_reverse mt_reverse (pv 12)))))))))))))))))
    (pss_one (ps_ret pe_bl)))), ?_⟩
  walk_at "rd"
  intro p np
  have x0 : Ext [] H (upd H p (.lst [.ref s.a, .int 0, .int 0, .int 0])) := Ext.new np
  have R0 : RowAt K p s (upd H p (.lst [.ref s.a, .int 0, .int 0, .int 0])) := ⟨0, 0, 0, upd_same, x0.seqL (fun z => nomatch z) hs, h63, by decide, by decide, by decide, by decide⟩
  generalize upd H p (.lst [.ref s.a, .int 0, .int 0, .int 0]) = H1 at R0 ⊢
  clear x0 np
  walk_at "rd"
  refine for_range (lo := 0) (n := 6) (fun i σ H' => ∃ o2 o3 o4 o5 o6 o7 o8 o9 oA oB oC : Option V, RowAt K p s H' ∧ σ = [some (.ref s.a), some (.ref p), o2, o3, o4, o5, o6, o7, o8, o9, oA, oB, oC])
    ⟨none, none, none, none, none, none, none, none, none, none, none, R0, rfl⟩ ?_ ?_
  · rintro i σ H1 hi ⟨o2, o3, o4, o5, o6, o7, o8, o9, oA, oB, oC, R, rfl⟩
    clear R0
    walk_at "rd"
    refine ⟨p, s, 24, rfl, R, fun v H2 R2 x2 gv => ?_⟩
    obtain ⟨e, te, eh, es, eo⟩ := gv
    clear R x2
    walk_at "rd"
    refine ⟨v, e, 0, rfl, te, by omega, by decide, by decide, fun u H3 x3 mt => ?_⟩
    walk_at "rd"
    refine ⟨u, e, 0, none, rfl, mt, by omega, by decide, by omega, by decide, fun ow H4 x4 now how => ?_⟩
    walk_at "rd"
    intro a na
    have x5 : Ext [] H4 (upd H4 a (.dK [])) := Ext.new na
    have ha : upd H4 a (.dK []) a = some (.dK []) := upd_same
    generalize upd H4 a (.dK []) = H5 at x5 ha ⊢
    walk_at "rd"
    refine ⟨u, e, 0, a, [], fun _ => none, rfl, MT.ext (x4.trans x5) mt, by omega, by decide, by omega, by decide, ha, by decide, says_nil, fun F H6 fs x6 nF hF hU => ?_⟩
    have pr := prog_mk eo
    have hm := e.mk_hgt 0 fun _ => 0
    have hsz := e.mk_size 0 fun _ => 0
    have hur := (e.uses_rise 0 fun _ => none).1
    have huse : (laysOf (e.mk 0 fun _ => 0).pre).map (fun p => (p.1, p.2.used)) = e.uses 0 fun _ => none := by
      rw [laysOf_funs]; exact E.funs_uses e 0 _ _ (fun _ => False) eo fun _ z => z.elim
    have hin : ∀ p ∈ e.uses 0 fun _ => none, p.2.length ≤ 100 := fun p hp => by have := e.uses_in 0 _ p hp; omega
    have how6 := (x5.trans x6).dk how
    have lcOf : ∀ (H' : Hp) (l : Lay), Ext [] H6 H' → OwnOk (e.owners 0 none) l → (∀ f, l.site = some f → (f, l.used) ∈ e.uses 0 fun _ => none) → (l.site = none → l.used = []) → LC H' ow F (e.owners 0 none) fs (e.uses 0 fun _ => none) l (e.mk 0 fun _ => 0).lays := by
      intro H' l x' h1 h2 h3
      refine ⟨x'.dk how6, (own_range e 0 none).2.1, h1, x'.dk hF, hU.ext x', hur, fun s y hy => ?_, h2, h3⟩
      rw [← huse]
      rcases lays_mem hy with ⟨z, _⟩ | ⟨s2, c, z1, z2, z3⟩
      · cases z
      · cases z1
        rw [z3]
        exact List.mem_map.mpr ⟨(s, mkLay (some s) c), laysOf_mem.mpr ⟨c, z2, rfl⟩, rfl⟩
    walk_at "rd"
    intro e1 ne1
    have xe1 : Ext [] H6 (upd H6 e1 (.tup [])) := Ext.new ne1
    have he1 : upd H6 e1 (.tup []) e1 = some (.tup []) := upd_same
    generalize upd H6 e1 (.tup []) = H7 at xe1 he1 ⊢
    walk_at "rd"
    intro d1 nd1
    have xd1 : Ext [] H7 (upd H7 d1 (.dK [])) := Ext.new nd1
    have hd1 : upd H7 d1 (.dK []) d1 = some (.dK []) := upd_same
    generalize upd H7 d1 (.dK []) = H8 at xd1 hd1 ⊢
    have x68 := xe1.trans xd1
    have x38 := (x4.trans (x5.trans x6)).trans x68
    have own0 := own_ok_none e
    walk_at "rd"
    refine ⟨u, e, 0, d1, ow, F, [], fun _ => none, fun _ => False, _, fs, _, mkLay none (e.mk 0 fun _ => 0), (e.mk 0 fun _ => 0).lays, usesOf (e.mk 0 fun _ => 0), rfl, MT.ext x38 mt, by omega, hd1, by decide, says_nil, fun _ z => z.elim, eo, lcOf H8 _ x68 own0 (fun f z => nomatch z) (fun _ => rfl), hin, pr.cutOk (p := (.none, mkLay none (e.mk 0 fun _ => 0))) List.mem_cons_self, fun c0 H9 x9 dc0 => ?_⟩
    walk_at "rd"
    intro t0 nt0
    have xt0 : Ext [] H9 (upd H9 t0 (.tup [.non, .ref e1, c0])) := Ext.new nt0
    have ht0 : upd H9 t0 (.tup [.non, .ref e1, c0]) t0 = some (.tup [.non, .ref e1, c0]) := upd_same
    generalize upd H9 t0 (.tup [.non, .ref e1, c0]) = H10 at xt0 ht0 ⊢
    walk_at "rd"
    intro D nD
    have xD : Ext [] H10 (upd H10 D (.lst [.ref t0])) := Ext.new nD
    have hD : upd H10 D (.lst [.ref t0]) D = some (.lst [.ref t0]) := upd_same
    have nDt : D ≠ t0 := fun z => by rw [z, ht0] at nD; cases nD
    generalize upd H10 D (.lst [.ref t0]) = H11 at xD hD ⊢
    have x611 := ((x68.trans x9).trans xt0).trans xD
    have dp0 : Dp K H11 (.ref t0) (pieceD (e.mk 0 fun _ => 0) (mkLay none (e.mk 0 fun _ => 0))) := by
      refine .tup (SqT.of (xD.tup ht0)) (.cons .non (.cons (.tup (SqT.of ((xd1.trans x9).trans (xt0.trans xD) |>.tup he1)) .nil) (.cons (Dp.ext (xt0.trans xD) _ _ dc0) .nil)))
    have x311 := (x4.trans (x5.trans x6)).trans x611
    walk_at "rd"
    intro d2 nd2
    have xd2 : Ext [] H11 (upd H11 d2 (.dK [])) := Ext.new nd2
    have hd2 : upd H11 d2 (.dK []) d2 = some (.dK []) := upd_same
    generalize upd H11 d2 (.dK []) = H12 at xd2 hd2 ⊢
    walk_at "rd"
    refine ⟨u, e, 0, d2, [], fun _ => none, rfl, MT.ext (x311.trans xd2) mt, by omega, by omega, hd2, by decide, says_nil, fun FL H13 fws x13 nFL hFL hfl => ?_⟩
    have fll := hfl.len
    have fle := e.fl_len 0 fun _ => none
    have hlays := fl_lays e 0 fun _ => none
    rw [gr_none] at hlays
    generalize hFl : (e.fl 0 fun _ => none) = fl at hfl fll fle hlays
    have x1113 := xd2.trans x13
    have hD13 := x1113.lst (fun z => nomatch z) hD
    have nDL : FL ≠ D := fun z => by rw [z, xd2.lst (fun z => nomatch z) hD] at nFL; cases nFL
    have R13 := R2.ext0 ((x3.trans x311).trans x1113)
    have te13 := TE.ext ((x3.trans x311).trans x1113) te
    have dp13 := Dp.ext x1113 _ _ dp0
    have x613 := x611.trans x1113
    have nDp : D ≠ p := R2.ne_new (x3.trans ((x4.trans (x5.trans x6)).trans ((x68.trans x9).trans xt0)) |>.fresh0 nD)
    have offD : Off K s D := (R2.ext0 (x3.trans ((x4.trans (x5.trans x6)).trans ((x68.trans x9).trans xt0)))).off nD
    have nD6 : H6 D = none := ((x68.trans x9).trans xt0).fresh0 nD
    clear x3 x4 x5 x6 x68 x38 x9 xt0 xD x311 xd2 x13 x1113 x611 dp0 hd2 hd1 nd2 nd1 ha na he1 ne1 ht0 nt0 dc0 how how6 now nF xe1 xd1 te hD nFL
    refine ⟨FL, rfl, ⟨_, SqL.of hFL⟩, ?_⟩
    refine for_list (K := K) (a := FL) (xs := fws) (fun j σ H' => ∃ (rs : List V) (o8 o9 oA : Option V), Ext [D] H13 H' ∧ Ext [] H6 H' ∧ H' FL = some (.lst fws) ∧ H' D = some (.lst (.ref t0 :: rs)) ∧ FLs K H' fws fl ∧ RTs K (e.mk 0 fun _ => 0) H' rs ((fl.take j).map flL) ∧
        σ = [some (.ref s.a), some (.ref p), some (.int (0 + (i : Nat))), some v, some u, some (.ref ow), some (.ref F), some (.ref D), o8, o9, oA, oB, oC])
      ⟨[], o8, o9, oA, Ext.refl _ _, x613, hFL, hD13, hfl, trivial, rfl⟩ (fun j σ H' _ ⟨_, _, _, _, _, _, h, _⟩ => SqL.of h) ?_ ?_
    · rintro j y σ H14 hy ⟨rs, o8, o9, oA, g1, g2, g3, g4, g5, g6, rfl⟩
      obtain ⟨⟨k, b, m, sg⟩, hx, rw1⟩ := g5.at hy
      obtain ⟨tx, vm, dx, kvx, rfl, htx, mx, hdx, kvl, sgs⟩ := rw1
      dsimp only at mx sgs
      obtain ⟨pm, xb, rfl, hpm, mb⟩ := mx
      have hxm : (k, b, m, sg) ∈ e.fl 0 fun _ => none := by rw [hFl]; exact List.mem_of_getElem? hx
      have jl := (List.getElem?_eq_some_iff.mp hx).1
      obtain ⟨S, hS, okb⟩ := fl_ok e 0 _ _ eo (fun _ z => z.elim) _ hxm
      dsimp only at hS okb
      have own := own_ok_fun eo hxm
      have lmem : flL (k, b, m, sg) ∈ laysOf (e.mk 0 fun _ => 0).pre := by
        rw [← hlays]; exact List.mem_map.mpr ⟨_, List.mem_of_getElem? hx, rfl⟩
      have lm2 : (Leaf.num m, (flL (k, b, m, sg)).2) ∈ (e.mk 0 fun _ => 0).lays := List.mem_cons_of_mem _ (List.mem_map.mpr ⟨_, lmem, rfl⟩)
      have ck := pr.cutOk lm2
      have bh := (lays_body lm2).1
      have ebody : (flL (k, b, m, sg)).2.body = b.mk (m + 1) (gr (st sg k (some m))) := rfl
      have esite : (flL (k, b, m, sg)).2.site = some m := rfl
      dsimp only at ck bh
      rw [ebody] at ck bh
      rw [E.mk_hgt] at bh
      have hus : (m, (flL (k, b, m, sg)).2.used) ∈ e.uses 0 fun _ => none := by
        rw [← huse]; exact List.mem_map.mpr ⟨_, lmem, rfl⟩
      have lc14 := lcOf H14 _ g2 own (fun f z => by rw [esite] at z; cases z; exact hus) (fun z => by rw [esite] at z; cases z)
      refine ⟨tx, _, rfl, htx, rfl, ?_⟩
      refine ⟨_, _, rfl, ?_⟩
      refine ⟨_, _, rfl, ?_⟩
      walk_at "rd"
      refine ⟨dx, k, .int m, kvx, rfl, hdx, by omega, fun d3 H15 x15 nd3 hd3 => ?_⟩
      have kl3 := length_putK kvx (Sum.inl k) (V.int m)
      have hpm15 := x15.seqT hpm
      walk_at "rd"
      refine ⟨xb, b, m + 1, d3, ow, F, _, st sg k (some m), fun j => j = k ∨ S j, _, fs, _, (flL (k, b, m, sg)).2, _, usesOf (e.mk 0 fun _ => 0), rfl, MT.ext x15 mb, by omega, hd3, by omega, sgs.put k (some m), fun j hj => ?_, okb.2.2, lc14.ext x15, hin, ck, fun ub H16 x16 dub => ?_⟩
      · unfold st
        by_cases z : j = k
        · rw [if_pos z]; exact ⟨m, rfl⟩
        · rw [if_neg z]; exact hS j (hj.resolve_left z)
      have x1416 := x15.trans x16
      have hpm16 := x16.seqT hpm15
      walk_at "rd"
      refine ⟨.inl ⟨rfl, _, SqL.of (x1416.lst (fun z => nomatch z) g4)⟩, ?_⟩
      walk_at "rd"
      have lc16 := lc14.ext x1416
      obtain ⟨la, hv, hl⟩ := lc16.ua.get lc16.uw _ hus
      dsimp only at hv hl
      have hg := DGet.k (k := Sum.inl m) lc16.ht
      rw [hv] at hg
      refine ⟨F, _, rfl, hg, ?_⟩
      refine ⟨la, _, rfl, .inl ⟨SqL.of hl, fun tt ntt => ?_⟩⟩
      have xtt : Ext [] H16 (upd H16 tt (.tup ((flL (k, b, m, sg)).2.used.map V.int))) := Ext.new ntt
      have htt : upd H16 tt (.tup ((flL (k, b, m, sg)).2.used.map V.int)) tt = some (.tup ((flL (k, b, m, sg)).2.used.map V.int)) := upd_same
      generalize upd H16 tt (.tup ((flL (k, b, m, sg)).2.used.map V.int)) = H17 at xtt htt ⊢
      walk_at "rd"
      intro t3 nt3
      have xt3 : Ext [] H17 (upd H17 t3 (.tup [.int m, .ref tt, ub])) := Ext.new nt3
      have ht3 : upd H17 t3 (.tup [.int m, .ref tt, ub]) t3 = some (.tup [.int m, .ref tt, ub]) := upd_same
      generalize upd H17 t3 (.tup [.int m, .ref tt, ub]) = H18 at xt3 ht3 ⊢
      have x1418 := (x1416.trans xtt).trans xt3
      have hD18 := x1418.lst (fun z => nomatch z) g4
      have rl := g6.len
      rw [List.length_map, List.length_take] at rl
      walk_at "rd"
      have xp : Ext [D] H18 (upd H18 D (.lst (.ref t0 :: rs ++ [.ref t3]))) := Ext.put hD18 (List.mem_singleton.mpr rfl)
      refine ⟨D, _, _, rfl, rfl, hD18, small1000 (by rw [List.length_cons]; omega), ?_⟩
      refine ⟨rs ++ [.ref t3], _, _, _, (g1.trans x1418.to).trans xp, (g2.trans x1418).mut nD6, ?_, upd_same, ?_, ?_, rfl⟩
      · rw [upd_ne nDL]; exact x1418.lst (fun z => nomatch z) g3
      · exact (g5.ext x1418).ext xp
      · rw [List.take_succ, hx, List.map_append]
        refine RTs.snoc ?_ ((g6.ext x1418).ext xp)
        exact RT.ext xp ⟨t3, tt, ub, rfl, ht3, SqT.of (xt3.tup htt), Dp.ext (xtt.trans xt3) _ _ dub⟩
    · rintro σ H14 ⟨rs, o8, o9, oA, g1, g2, g3, g4, g5, g6, rfl⟩
      rw [fll, List.take_length, hlays] at g6
      have rl := g6.len
      have ll := laysOf_len (e.mk 0 fun _ => 0).pre
      rw [E.pre_len] at ll
      replace R13 := R13.ext1 g1 nDp offD
      replace te13 := TE.ext g1 te13
      replace dp13 := Dp.extT g1 _ _ (pieceD_noL _ _) dp13
      walk_at "rd"
      refine ⟨D, _, rfl, SqL.of g4, fun L1 nL1 => ?_⟩
      rw [cutTo1]
      have xL1 : Ext [] H14 (upd H14 L1 (.lst [.ref t0])) := Ext.new nL1
      have hL1 : upd H14 L1 (.lst [.ref t0]) L1 = some (.lst [.ref t0]) := upd_same
      generalize upd H14 L1 (.lst [.ref t0]) = H15 at xL1 hL1 ⊢
      walk_at "rd"
      refine ⟨D, _, rfl, SqL.of (xL1.lst (fun z => nomatch z) g4), fun L2 nL2 => ?_⟩
      rw [cut1]
      have xL2 : Ext [] H15 (upd H15 L2 (.lst rs)) := Ext.new nL2
      have hL2 : upd H15 L2 (.lst rs) L2 = some (.lst rs) := upd_same
      generalize upd H15 L2 (.lst rs) = H16 at xL2 hL2 ⊢
      have g616 := g6.ext (xL1.trans xL2)
      have hkeys : (rs.map (rowK H16)).Pairwise (· < ·) := by rw [g616.keys]; exact pr.rise
      walk_at "rd"
      refine ⟨L2, rs, fun v => [rowK H16 v], 1, rfl, SqL.of hL2, by decide, fun y hy => ?_, fun y hy z hz e => ?_, fun out L3 hperm hpw nL3 => ?_⟩
      · obtain ⟨p9, zs, e1, e2⟩ := g616.row y hy
        exact ⟨p9, zs, e1, e2, rfl⟩
      · obtain ⟨i1, h1, rfl⟩ := List.getElem_of_mem hy
        obtain ⟨i2, h2, rfl⟩ := List.getElem_of_mem hz
        have e' := (List.cons.inj e).1
        rw [List.pairwise_map, List.pairwise_iff_getElem] at hkeys
        rcases Nat.lt_trichotomy i1 i2 with h | h | h
        · have := hkeys i1 i2 h1 h2 h; omega
        · subst h; rfl
        · have := hkeys i2 i1 h2 h1 h; omega
      obtain rfl : out = rs := sorted_same hperm hpw hkeys
      have xL3 : Ext [] H16 (upd H16 L3 (.lst out)) := Ext.new nL3
      have hL3 : upd H16 L3 (.lst out) L3 = some (.lst out) := upd_same
      generalize upd H16 L3 (.lst out) = H17 at xL3 hL3 ⊢
      walk_at "rd"
      refine ⟨L1, L3, _, _, rfl, rfl, (xL2.trans xL3).lst (fun z => nomatch z) hL1, hL3, Nat.le_of_lt (small1000 (by rw [List.length_cons, List.length_nil]; omega)), fun L4 nL4 => ?_⟩
      have xL4 : Ext [] H17 (upd H17 L4 (.lst ([.ref t0] ++ out))) := Ext.new nL4
      have hL4 : upd H17 L4 (.lst ([.ref t0] ++ out)) L4 = some (.lst ([.ref t0] ++ out)) := upd_same
      generalize upd H17 L4 (.lst ([.ref t0] ++ out)) = H18 at xL4 hL4 ⊢
      have x1418 := ((xL1.trans xL2).trans xL3).trans xL4
      have due : DpAll K H18 ([.ref t0] ++ out) (piecesD (e.mk 0 fun _ => 0)) := by
        show DpAll K H18 (.ref t0 :: out) ((E.lays (e.mk 0 fun _ => 0)).map fun p => pieceD (e.mk 0 fun _ => 0) p.2)
        unfold E.lays
        rw [List.map_cons, List.map_map]
        exact .cons (Dp.ext x1418 _ _ dp13) (RTs.dp (fun p hp => laysOf_site hp) (g6.ext x1418) fun p hp => laysOf_site hp)
      replace R13 := R13.ext0 x1418
      replace te13 := TE.ext x1418 te13
      have fit := fit_pieces pr (by omega) (by omega)
      clear hpw hperm hkeys g616 hL3 xL3 nL3 hL2 xL2 nL2 hL1 xL1 nL1 g1 g2 g3 g4 g5 g6 x1418 xL4 nL4 dp13
      walk_at "rd"
      refine for_range (lo := 0) (n := 2) (fun j σ H' => ∃ o8 o9 oA oB oC : Option V, Ext [] H18 H' ∧ σ = [some (.ref s.a), some (.ref p), some (.int (0 + (i : Nat))), some v, some u, some (.ref ow), some (.ref F), some (.ref L4), o8, o9, oA, oB, oC])
        ⟨o8, o9, oA, oB, oC, Ext.refl _ _, rfl⟩ ?_ ?_
      · rintro j σ H19 hj ⟨o8, o9, oA, oB, oC, x19, rfl⟩
        walk_at "rd"
        refine ⟨v, e, rfl, TE.ext x19 te13, eh, by omega, eo, fun q2 H20 vs x20 nq hq dq => ?_⟩
        have x1820 := x19.trans x20
        have hL420 := x1820.lst (fun z => nomatch z) hL4
        walk_at "rd"
        refine ⟨.ref q2, .ref L4, rfl, Sm.of fit (.lst (SqL.of hq) dq) (.lst (SqL.of hL420) (DpAll.ext x1820 _ _ due)), fun H21 x21 => ?_⟩
        have hq21 := x21.lst (fun z => nomatch z) hq
        have vl := dq.len
        have pl : (piecesD (e.mk 0 fun _ => 0)).length ≤ 100 := fit.1
        have nq18 : H18 q2 = none := x19.fresh0 nq
        walk_at "rd"
        intro t9 nt9
        have x22 : Ext [] H21 (upd H21 t9 (.tup [])) := Ext.new nt9
        have hq22 := x22.lst (fun z => nomatch z) hq21
        generalize upd H21 t9 (.tup []) = H22 at x22 hq22 ⊢
        walk_at "rd"
        refine ⟨q2, _, _, rfl, rfl, hq22, small1000 (by omega), ?_⟩
        have x1822 := (x1820.trans x21).trans x22
        have x23 := x1822.mut (o := .lst (vs ++ [.ref t9])) nq18
        walk_at "rd"
        refine ⟨.inl ⟨rfl, _, SqL.of upd_same⟩, ?_⟩
        refine ⟨q2, _, rfl, rfl, upd_same, ?_⟩
        exact ⟨_, _, _, _, _, x23.mut nq18, rfl⟩
      · rintro σ H19 ⟨o8, o9, oA, oB, oC, x19, rfl⟩
        exact ⟨_, _, _, _, _, _, _, _, _, _, _, R13.ext0 x19, rfl⟩
  · rintro σ H1 ⟨o2, o3, o4, o5, o6, o7, o8, o9, oA, oB, oC, R, rfl⟩
    walk_at "rd"
    exact q _
end
end Env
end
section
set_option Elab.async false
set_option linter.all false
set_option maxRecDepth 100000
set_option maxHeartbeats 4000000
namespace Env
open PySem PySem.Spec L2
theorem all_mk {l : PySem.W.OpenLaw} {w : World} {K : PySem.W.Frag} {h : Heap} {mg : Str → Option Value} {fa : Addr} (X : K.In h) (G : h.Ns mainGlobals mg) (hfa : mg "law" = some (.ref fa))
    {C_Layout : Addr}
    {C_Marker : Addr}
    {f_is_whole : Addr}
    {f_Layout___init__ : Addr}
    {f_layouts_of : Addr}
    {f_used_from_outside : Addr}
    {f_lets_of : Addr}
    {f_parts_of : Addr}
    {f_marked : Addr}
    {f_Marker___init__ : Addr}
    {f_Marker_mark : Addr}
    {f_Marker_next_site : Addr}
    {f_need_form : Addr}
    {f_pieces : Addr}
    {f_cut : Addr}
    {f_source_of : Addr}
    {f_l_taken : Addr}
    {f_l_alike : Addr}
    {f_l_names : Addr}
    {f_l_bound : Addr}
    {f_l_leaf : Addr}
    {f_l_e : Addr}
    {f_l_size : Addr}
    {f_l_small : Addr}
    {f_l_makers : Addr}
    {f_l_side : Addr}
    {f_l_broad : Addr}
    {f_l_far : Addr}
    {f_l_program : Addr}
    {f_l_parts : Addr}
    {f_l_count : Addr}
    {f_l_marked : Addr}
    {f_l_free : Addr}
    {f_l_uses : Addr}
    {f_l_owners : Addr}
    {f_l_source : Addr}
    {f_l_cut : Addr}
    {f_l_funs : Addr}
    {f_law : Addr}
    {od_l_taken an_l_taken : Option Addr} {sl_l_taken : Array (Option Value)} {oc_l_taken kV_l_taken dc_l_taken pm_l_taken cd_l_taken ct_l_taken : Value}
    {od_l_alike an_l_alike : Option Addr} {sl_l_alike : Array (Option Value)} {oc_l_alike kV_l_alike dc_l_alike pm_l_alike cd_l_alike ct_l_alike : Value}
    {od_l_names an_l_names : Option Addr} {sl_l_names : Array (Option Value)} {oc_l_names kV_l_names dc_l_names pm_l_names cd_l_names ct_l_names : Value}
    {od_l_bound an_l_bound : Option Addr} {sl_l_bound : Array (Option Value)} {oc_l_bound kV_l_bound dc_l_bound pm_l_bound cd_l_bound ct_l_bound : Value}
    {od_l_leaf an_l_leaf : Option Addr} {sl_l_leaf : Array (Option Value)} {oc_l_leaf kV_l_leaf dc_l_leaf pm_l_leaf cd_l_leaf ct_l_leaf : Value}
    {od_l_e an_l_e : Option Addr} {sl_l_e : Array (Option Value)} {oc_l_e kV_l_e dc_l_e pm_l_e cd_l_e ct_l_e : Value}
    {od_l_size an_l_size : Option Addr} {sl_l_size : Array (Option Value)} {oc_l_size kV_l_size dc_l_size pm_l_size cd_l_size ct_l_size : Value}
    {od_l_small an_l_small : Option Addr} {sl_l_small : Array (Option Value)} {oc_l_small kV_l_small dc_l_small pm_l_small cd_l_small ct_l_small : Value}
    {od_l_makers an_l_makers : Option Addr} {sl_l_makers : Array (Option Value)} {oc_l_makers kV_l_makers dc_l_makers pm_l_makers cd_l_makers ct_l_makers : Value}
    {od_l_side an_l_side : Option Addr} {sl_l_side : Array (Option Value)} {oc_l_side kV_l_side dc_l_side pm_l_side cd_l_side ct_l_side : Value}
    {od_l_broad an_l_broad : Option Addr} {sl_l_broad : Array (Option Value)} {oc_l_broad kV_l_broad dc_l_broad pm_l_broad cd_l_broad ct_l_broad : Value}
    {od_l_far an_l_far : Option Addr} {sl_l_far : Array (Option Value)} {oc_l_far kV_l_far dc_l_far pm_l_far cd_l_far ct_l_far : Value}
    {od_l_program an_l_program : Option Addr} {sl_l_program : Array (Option Value)} {oc_l_program kV_l_program dc_l_program pm_l_program cd_l_program ct_l_program : Value}
    {od_l_parts an_l_parts : Option Addr} {sl_l_parts : Array (Option Value)} {oc_l_parts kV_l_parts dc_l_parts pm_l_parts cd_l_parts ct_l_parts : Value}
    {od_l_count an_l_count : Option Addr} {sl_l_count : Array (Option Value)} {oc_l_count kV_l_count dc_l_count pm_l_count cd_l_count ct_l_count : Value}
    {od_l_marked an_l_marked : Option Addr} {sl_l_marked : Array (Option Value)} {oc_l_marked kV_l_marked dc_l_marked pm_l_marked cd_l_marked ct_l_marked : Value}
    {od_l_free an_l_free : Option Addr} {sl_l_free : Array (Option Value)} {oc_l_free kV_l_free dc_l_free pm_l_free cd_l_free ct_l_free : Value}
    {od_l_uses an_l_uses : Option Addr} {sl_l_uses : Array (Option Value)} {oc_l_uses kV_l_uses dc_l_uses pm_l_uses cd_l_uses ct_l_uses : Value}
    {od_l_owners an_l_owners : Option Addr} {sl_l_owners : Array (Option Value)} {oc_l_owners kV_l_owners dc_l_owners pm_l_owners cd_l_owners ct_l_owners : Value}
    {od_l_source an_l_source : Option Addr} {sl_l_source : Array (Option Value)} {oc_l_source kV_l_source dc_l_source pm_l_source cd_l_source ct_l_source : Value}
    {od_l_cut an_l_cut : Option Addr} {sl_l_cut : Array (Option Value)} {oc_l_cut kV_l_cut dc_l_cut pm_l_cut cd_l_cut ct_l_cut : Value}
    {od_l_funs an_l_funs : Option Addr} {sl_l_funs : Array (Option Value)} {oc_l_funs kV_l_funs dc_l_funs pm_l_funs cd_l_funs ct_l_funs : Value}
    {od_is_whole an_is_whole : Option Addr} {sl_is_whole : Array (Option Value)} {oc_is_whole kV_is_whole dc_is_whole pm_is_whole cd_is_whole ct_is_whole : Value}
    {od_layouts_of an_layouts_of : Option Addr} {sl_layouts_of : Array (Option Value)} {oc_layouts_of kV_layouts_of dc_layouts_of pm_layouts_of cd_layouts_of ct_layouts_of : Value}
    {od_used_from_outside an_used_from_outside : Option Addr} {sl_used_from_outside : Array (Option Value)} {oc_used_from_outside kV_used_from_outside dc_used_from_outside pm_used_from_outside cd_used_from_outside ct_used_from_outside : Value}
    {od_lets_of an_lets_of : Option Addr} {sl_lets_of : Array (Option Value)} {oc_lets_of kV_lets_of dc_lets_of pm_lets_of cd_lets_of ct_lets_of : Value}
    {od_parts_of an_parts_of : Option Addr} {sl_parts_of : Array (Option Value)} {oc_parts_of kV_parts_of dc_parts_of pm_parts_of cd_parts_of ct_parts_of : Value}
    {od_marked an_marked : Option Addr} {sl_marked : Array (Option Value)} {oc_marked kV_marked dc_marked pm_marked cd_marked ct_marked : Value}
    {od_need_form an_need_form : Option Addr} {sl_need_form : Array (Option Value)} {oc_need_form kV_need_form dc_need_form pm_need_form cd_need_form ct_need_form : Value}
    {od_pieces an_pieces : Option Addr} {sl_pieces : Array (Option Value)} {oc_pieces kV_pieces dc_pieces pm_pieces cd_pieces ct_pieces : Value}
    {od_cut an_cut : Option Addr} {sl_cut : Array (Option Value)} {oc_cut kV_cut dc_cut pm_cut cd_cut ct_cut : Value}
    {od_source_of an_source_of : Option Addr} {sl_source_of : Array (Option Value)} {oc_source_of kV_source_of dc_source_of pm_source_of cd_source_of ct_source_of : Value}
    {od_law an_law : Option Addr} {sl_law : Array (Option Value)} {oc_law kV_law dc_law pm_law cd_law ct_law : Value}
    {od_Layout___init__ an_Layout___init__ : Option Addr} {sl_Layout___init__ : Array (Option Value)} {oc_Layout___init__ kV_Layout___init__ dc_Layout___init__ pm_Layout___init__ cd_Layout___init__ ct_Layout___init__ : Value}
    {od_Marker___init__ an_Marker___init__ : Option Addr} {sl_Marker___init__ : Array (Option Value)} {oc_Marker___init__ kV_Marker___init__ dc_Marker___init__ pm_Marker___init__ cd_Marker___init__ ct_Marker___init__ : Value}
    {od_Marker_mark an_Marker_mark : Option Addr} {sl_Marker_mark : Array (Option Value)} {oc_Marker_mark kV_Marker_mark dc_Marker_mark pm_Marker_mark cd_Marker_mark ct_Marker_mark : Value}
    {od_Marker_next_site an_Marker_next_site : Option Addr} {sl_Marker_next_site : Array (Option Value)} {oc_Marker_next_site kV_Marker_next_site dc_Marker_next_site pm_Marker_next_site cd_Marker_next_site ct_Marker_next_site : Value}
    {t_HIGHEST_NUMBER : Tok}
    {t_HIGHEST_NAME : Tok}
    {t_MOST_EXPRESSIONS : Tok}
    {t_MOST_AROUND : Tok}
    {FA : Addr} {es : Array DictEntry} {nn : Nat}
    {p0 : Addr} {po0 : Option Addr} {ps0 : Array (Option Value)} {pk0 : Nat} {t0_0 : Tok}
    {p1 : Addr} {po1 : Option Addr} {ps1 : Array (Option Value)} {pk1 : Nat} {t1_0 : Tok}
    {p2 : Addr} {po2 : Option Addr} {ps2 : Array (Option Value)} {pk2 : Nat} {t2_0 t2_1 : Tok}
    {p3 : Addr} {po3 : Option Addr} {ps3 : Array (Option Value)} {pk3 : Nat} {t3_0 t3_1 t3_2 : Tok}
    {p4 : Addr} {po4 : Option Addr} {ps4 : Array (Option Value)} {pk4 : Nat} {t4_0 t4_1 : Tok}
    {p5 : Addr} {po5 : Option Addr} {ps5 : Array (Option Value)} {pk5 : Nat} {t5_0 t5_1 : Tok}
    {p6 : Addr} {po6 : Option Addr} {ps6 : Array (Option Value)} {pk6 : Nat} {t6_0 t6_1 t6_2 : Tok}
    (aC_Layout : PySem.W.nsIn K mainGlobals "Layout" = some (some (.ref C_Layout)))
    (pg_Layout : PySem.W.plainGet K C_Layout Str.empty = true)
    (hd_Layout : PySem.W.hasDictIn K C_Layout = true)
    (po_Layout : PySem.W.plainOver K C_Layout = true)
    (sa_Layout : PySem.W.findIn K (.ref C_Layout) "__setattr__" = some (some (.builtin "object.__setattr__")))
    (mk_Layout : PySem.W.makesIn K C_Layout = true)
    (kc_Layout : PySem.W.keepIn K (.ref C_Layout) = true)
    (n_Layout_site : PySem.W.findIn K (.ref C_Layout) "site" = some none)
    (n_Layout_body : PySem.W.findIn K (.ref C_Layout) "body" = some none)
    (n_Layout_used : PySem.W.findIn K (.ref C_Layout) "used" = some none)
    (n_Layout_sites : PySem.W.findIn K (.ref C_Layout) "sites" = some none)
    (n_Layout_housed : PySem.W.findIn K (.ref C_Layout) "housed" = some none)
    (aC_Marker : PySem.W.nsIn K mainGlobals "Marker" = some (some (.ref C_Marker)))
    (pg_Marker : PySem.W.plainGet K C_Marker Str.empty = true)
    (hd_Marker : PySem.W.hasDictIn K C_Marker = true)
    (po_Marker : PySem.W.plainOver K C_Marker = true)
    (sa_Marker : PySem.W.findIn K (.ref C_Marker) "__setattr__" = some (some (.builtin "object.__setattr__")))
    (mk_Marker : PySem.W.makesIn K C_Marker = true)
    (kc_Marker : PySem.W.keepIn K (.ref C_Marker) = true)
    (n_Marker_expressions : PySem.W.findIn K (.ref C_Marker) "expressions" = some none)
    (n_Marker_sites : PySem.W.findIn K (.ref C_Marker) "sites" = some none)
    (a_l_taken : PySem.W.nsIn K mainGlobals "_law_taken" = some (some (.ref f_l_taken)))
    (l_l_taken : K.lookup f_l_taken = some ⟨oc_l_taken, od_l_taken, .func (PySem.W.fnOf "_law_taken" "_law_taken" (defArgs s_l_taken) (defBody s_l_taken) (defScope s_l_taken) .none kV_l_taken dc_l_taken pm_l_taken an_l_taken cd_l_taken ct_l_taken), sl_l_taken⟩)
    (c_l_taken : PySem.W.codeIn K cd_l_taken "_law_taken" = true)
    (k_l_taken : PySem.W.keepIn K (.ref f_l_taken) = true)
    (a_l_alike : PySem.W.nsIn K mainGlobals "_law_alike" = some (some (.ref f_l_alike)))
    (l_l_alike : K.lookup f_l_alike = some ⟨oc_l_alike, od_l_alike, .func (PySem.W.fnOf "_law_alike" "_law_alike" (defArgs s_l_alike) (defBody s_l_alike) (defScope s_l_alike) .none kV_l_alike dc_l_alike pm_l_alike an_l_alike cd_l_alike ct_l_alike), sl_l_alike⟩)
    (c_l_alike : PySem.W.codeIn K cd_l_alike "_law_alike" = true)
    (k_l_alike : PySem.W.keepIn K (.ref f_l_alike) = true)
    (a_l_names : PySem.W.nsIn K mainGlobals "_law_names" = some (some (.ref f_l_names)))
    (l_l_names : K.lookup f_l_names = some ⟨oc_l_names, od_l_names, .func (PySem.W.fnOf "_law_names" "_law_names" (defArgs s_l_names) (defBody s_l_names) (defScope s_l_names) .none kV_l_names dc_l_names pm_l_names an_l_names cd_l_names ct_l_names), sl_l_names⟩)
    (c_l_names : PySem.W.codeIn K cd_l_names "_law_names" = true)
    (k_l_names : PySem.W.keepIn K (.ref f_l_names) = true)
    (a_l_bound : PySem.W.nsIn K mainGlobals "_law_bound" = some (some (.ref f_l_bound)))
    (l_l_bound : K.lookup f_l_bound = some ⟨oc_l_bound, od_l_bound, .func (PySem.W.fnOf "_law_bound" "_law_bound" (defArgs s_l_bound) (defBody s_l_bound) (defScope s_l_bound) .none kV_l_bound dc_l_bound pm_l_bound an_l_bound cd_l_bound ct_l_bound), sl_l_bound⟩)
    (c_l_bound : PySem.W.codeIn K cd_l_bound "_law_bound" = true)
    (k_l_bound : PySem.W.keepIn K (.ref f_l_bound) = true)
    (a_l_leaf : PySem.W.nsIn K mainGlobals "_law_leaf" = some (some (.ref f_l_leaf)))
    (l_l_leaf : K.lookup f_l_leaf = some ⟨oc_l_leaf, od_l_leaf, .func (PySem.W.fnOf "_law_leaf" "_law_leaf" (defArgs s_l_leaf) (defBody s_l_leaf) (defScope s_l_leaf) .none kV_l_leaf dc_l_leaf pm_l_leaf an_l_leaf cd_l_leaf ct_l_leaf), sl_l_leaf⟩)
    (c_l_leaf : PySem.W.codeIn K cd_l_leaf "_law_leaf" = true)
    (k_l_leaf : PySem.W.keepIn K (.ref f_l_leaf) = true)
    (a_l_e : PySem.W.nsIn K mainGlobals "_law_e" = some (some (.ref f_l_e)))
    (l_l_e : K.lookup f_l_e = some ⟨oc_l_e, od_l_e, .func (PySem.W.fnOf "_law_e" "_law_e" (defArgs s_l_e) (defBody s_l_e) (defScope s_l_e) .none kV_l_e dc_l_e pm_l_e an_l_e cd_l_e ct_l_e), sl_l_e⟩)
    (c_l_e : PySem.W.codeIn K cd_l_e "_law_e" = true)
    (k_l_e : PySem.W.keepIn K (.ref f_l_e) = true)
    (a_l_size : PySem.W.nsIn K mainGlobals "_law_size" = some (some (.ref f_l_size)))
    (l_l_size : K.lookup f_l_size = some ⟨oc_l_size, od_l_size, .func (PySem.W.fnOf "_law_size" "_law_size" (defArgs s_l_size) (defBody s_l_size) (defScope s_l_size) .none kV_l_size dc_l_size pm_l_size an_l_size cd_l_size ct_l_size), sl_l_size⟩)
    (c_l_size : PySem.W.codeIn K cd_l_size "_law_size" = true)
    (k_l_size : PySem.W.keepIn K (.ref f_l_size) = true)
    (a_l_small : PySem.W.nsIn K mainGlobals "_law_small" = some (some (.ref f_l_small)))
    (l_l_small : K.lookup f_l_small = some ⟨oc_l_small, od_l_small, .func (PySem.W.fnOf "_law_small" "_law_small" (defArgs s_l_small) (defBody s_l_small) (defScope s_l_small) .none kV_l_small dc_l_small pm_l_small an_l_small cd_l_small ct_l_small), sl_l_small⟩)
    (c_l_small : PySem.W.codeIn K cd_l_small "_law_small" = true)
    (k_l_small : PySem.W.keepIn K (.ref f_l_small) = true)
    (a_l_makers : PySem.W.nsIn K mainGlobals "_law_makers" = some (some (.ref f_l_makers)))
    (l_l_makers : K.lookup f_l_makers = some ⟨oc_l_makers, od_l_makers, .func (PySem.W.fnOf "_law_makers" "_law_makers" (defArgs s_l_makers) (defBody s_l_makers) (defScope s_l_makers) .none kV_l_makers dc_l_makers pm_l_makers an_l_makers cd_l_makers ct_l_makers), sl_l_makers⟩)
    (c_l_makers : PySem.W.codeIn K cd_l_makers "_law_makers" = true)
    (k_l_makers : PySem.W.keepIn K (.ref f_l_makers) = true)
    (a_l_side : PySem.W.nsIn K mainGlobals "_law_side" = some (some (.ref f_l_side)))
    (l_l_side : K.lookup f_l_side = some ⟨oc_l_side, od_l_side, .func (PySem.W.fnOf "_law_side" "_law_side" (defArgs s_l_side) (defBody s_l_side) (defScope s_l_side) .none kV_l_side dc_l_side pm_l_side an_l_side cd_l_side ct_l_side), sl_l_side⟩)
    (c_l_side : PySem.W.codeIn K cd_l_side "_law_side" = true)
    (k_l_side : PySem.W.keepIn K (.ref f_l_side) = true)
    (a_l_broad : PySem.W.nsIn K mainGlobals "_law_broad" = some (some (.ref f_l_broad)))
    (l_l_broad : K.lookup f_l_broad = some ⟨oc_l_broad, od_l_broad, .func (PySem.W.fnOf "_law_broad" "_law_broad" (defArgs s_l_broad) (defBody s_l_broad) (defScope s_l_broad) .none kV_l_broad dc_l_broad pm_l_broad an_l_broad cd_l_broad ct_l_broad), sl_l_broad⟩)
    (c_l_broad : PySem.W.codeIn K cd_l_broad "_law_broad" = true)
    (k_l_broad : PySem.W.keepIn K (.ref f_l_broad) = true)
    (a_l_far : PySem.W.nsIn K mainGlobals "_law_far" = some (some (.ref f_l_far)))
    (l_l_far : K.lookup f_l_far = some ⟨oc_l_far, od_l_far, .func (PySem.W.fnOf "_law_far" "_law_far" (defArgs s_l_far) (defBody s_l_far) (defScope s_l_far) .none kV_l_far dc_l_far pm_l_far an_l_far cd_l_far ct_l_far), sl_l_far⟩)
    (c_l_far : PySem.W.codeIn K cd_l_far "_law_far" = true)
    (k_l_far : PySem.W.keepIn K (.ref f_l_far) = true)
    (a_l_program : PySem.W.nsIn K mainGlobals "_law_program" = some (some (.ref f_l_program)))
    (l_l_program : K.lookup f_l_program = some ⟨oc_l_program, od_l_program, .func (PySem.W.fnOf "_law_program" "_law_program" (defArgs s_l_program) (defBody s_l_program) (defScope s_l_program) .none kV_l_program dc_l_program pm_l_program an_l_program cd_l_program ct_l_program), sl_l_program⟩)
    (c_l_program : PySem.W.codeIn K cd_l_program "_law_program" = true)
    (k_l_program : PySem.W.keepIn K (.ref f_l_program) = true)
    (a_l_parts : PySem.W.nsIn K mainGlobals "_law_parts" = some (some (.ref f_l_parts)))
    (l_l_parts : K.lookup f_l_parts = some ⟨oc_l_parts, od_l_parts, .func (PySem.W.fnOf "_law_parts" "_law_parts" (defArgs s_l_parts) (defBody s_l_parts) (defScope s_l_parts) .none kV_l_parts dc_l_parts pm_l_parts an_l_parts cd_l_parts ct_l_parts), sl_l_parts⟩)
    (c_l_parts : PySem.W.codeIn K cd_l_parts "_law_parts" = true)
    (k_l_parts : PySem.W.keepIn K (.ref f_l_parts) = true)
    (a_l_count : PySem.W.nsIn K mainGlobals "_law_count" = some (some (.ref f_l_count)))
    (l_l_count : K.lookup f_l_count = some ⟨oc_l_count, od_l_count, .func (PySem.W.fnOf "_law_count" "_law_count" (defArgs s_l_count) (defBody s_l_count) (defScope s_l_count) .none kV_l_count dc_l_count pm_l_count an_l_count cd_l_count ct_l_count), sl_l_count⟩)
    (c_l_count : PySem.W.codeIn K cd_l_count "_law_count" = true)
    (k_l_count : PySem.W.keepIn K (.ref f_l_count) = true)
    (a_l_marked : PySem.W.nsIn K mainGlobals "_law_marked" = some (some (.ref f_l_marked)))
    (l_l_marked : K.lookup f_l_marked = some ⟨oc_l_marked, od_l_marked, .func (PySem.W.fnOf "_law_marked" "_law_marked" (defArgs s_l_marked) (defBody s_l_marked) (defScope s_l_marked) .none kV_l_marked dc_l_marked pm_l_marked an_l_marked cd_l_marked ct_l_marked), sl_l_marked⟩)
    (c_l_marked : PySem.W.codeIn K cd_l_marked "_law_marked" = true)
    (k_l_marked : PySem.W.keepIn K (.ref f_l_marked) = true)
    (a_l_free : PySem.W.nsIn K mainGlobals "_law_free" = some (some (.ref f_l_free)))
    (l_l_free : K.lookup f_l_free = some ⟨oc_l_free, od_l_free, .func (PySem.W.fnOf "_law_free" "_law_free" (defArgs s_l_free) (defBody s_l_free) (defScope s_l_free) .none kV_l_free dc_l_free pm_l_free an_l_free cd_l_free ct_l_free), sl_l_free⟩)
    (c_l_free : PySem.W.codeIn K cd_l_free "_law_free" = true)
    (k_l_free : PySem.W.keepIn K (.ref f_l_free) = true)
    (a_l_uses : PySem.W.nsIn K mainGlobals "_law_uses" = some (some (.ref f_l_uses)))
    (l_l_uses : K.lookup f_l_uses = some ⟨oc_l_uses, od_l_uses, .func (PySem.W.fnOf "_law_uses" "_law_uses" (defArgs s_l_uses) (defBody s_l_uses) (defScope s_l_uses) .none kV_l_uses dc_l_uses pm_l_uses an_l_uses cd_l_uses ct_l_uses), sl_l_uses⟩)
    (c_l_uses : PySem.W.codeIn K cd_l_uses "_law_uses" = true)
    (k_l_uses : PySem.W.keepIn K (.ref f_l_uses) = true)
    (a_l_owners : PySem.W.nsIn K mainGlobals "_law_owners" = some (some (.ref f_l_owners)))
    (l_l_owners : K.lookup f_l_owners = some ⟨oc_l_owners, od_l_owners, .func (PySem.W.fnOf "_law_owners" "_law_owners" (defArgs s_l_owners) (defBody s_l_owners) (defScope s_l_owners) .none kV_l_owners dc_l_owners pm_l_owners an_l_owners cd_l_owners ct_l_owners), sl_l_owners⟩)
    (c_l_owners : PySem.W.codeIn K cd_l_owners "_law_owners" = true)
    (k_l_owners : PySem.W.keepIn K (.ref f_l_owners) = true)
    (a_l_source : PySem.W.nsIn K mainGlobals "_law_source" = some (some (.ref f_l_source)))
    (l_l_source : K.lookup f_l_source = some ⟨oc_l_source, od_l_source, .func (PySem.W.fnOf "_law_source" "_law_source" (defArgs s_l_source) (defBody s_l_source) (defScope s_l_source) .none kV_l_source dc_l_source pm_l_source an_l_source cd_l_source ct_l_source), sl_l_source⟩)
    (c_l_source : PySem.W.codeIn K cd_l_source "_law_source" = true)
    (k_l_source : PySem.W.keepIn K (.ref f_l_source) = true)
    (a_l_cut : PySem.W.nsIn K mainGlobals "_law_cut" = some (some (.ref f_l_cut)))
    (l_l_cut : K.lookup f_l_cut = some ⟨oc_l_cut, od_l_cut, .func (PySem.W.fnOf "_law_cut" "_law_cut" (defArgs s_l_cut) (defBody s_l_cut) (defScope s_l_cut) .none kV_l_cut dc_l_cut pm_l_cut an_l_cut cd_l_cut ct_l_cut), sl_l_cut⟩)
    (c_l_cut : PySem.W.codeIn K cd_l_cut "_law_cut" = true)
    (k_l_cut : PySem.W.keepIn K (.ref f_l_cut) = true)
    (a_l_funs : PySem.W.nsIn K mainGlobals "_law_funs" = some (some (.ref f_l_funs)))
    (l_l_funs : K.lookup f_l_funs = some ⟨oc_l_funs, od_l_funs, .func (PySem.W.fnOf "_law_funs" "_law_funs" (defArgs s_l_funs) (defBody s_l_funs) (defScope s_l_funs) .none kV_l_funs dc_l_funs pm_l_funs an_l_funs cd_l_funs ct_l_funs), sl_l_funs⟩)
    (c_l_funs : PySem.W.codeIn K cd_l_funs "_law_funs" = true)
    (k_l_funs : PySem.W.keepIn K (.ref f_l_funs) = true)
    (a_is_whole : PySem.W.nsIn K mainGlobals "is_whole" = some (some (.ref f_is_whole)))
    (l_is_whole : K.lookup f_is_whole = some ⟨oc_is_whole, od_is_whole, .func (PySem.W.fnOf "is_whole" "is_whole" (defArgs s_is_whole) (defBody s_is_whole) (defScope s_is_whole) .none kV_is_whole dc_is_whole pm_is_whole an_is_whole cd_is_whole ct_is_whole), sl_is_whole⟩)
    (c_is_whole : PySem.W.codeIn K cd_is_whole "is_whole" = true)
    (k_is_whole : PySem.W.keepIn K (.ref f_is_whole) = true)
    (a_layouts_of : PySem.W.nsIn K mainGlobals "layouts_of" = some (some (.ref f_layouts_of)))
    (l_layouts_of : K.lookup f_layouts_of = some ⟨oc_layouts_of, od_layouts_of, .func (PySem.W.fnOf "layouts_of" "layouts_of" (defArgs s_layouts_of) (defBody s_layouts_of) (defScope s_layouts_of) .none kV_layouts_of dc_layouts_of pm_layouts_of an_layouts_of cd_layouts_of ct_layouts_of), sl_layouts_of⟩)
    (c_layouts_of : PySem.W.codeIn K cd_layouts_of "layouts_of" = true)
    (k_layouts_of : PySem.W.keepIn K (.ref f_layouts_of) = true)
    (a_used_from_outside : PySem.W.nsIn K mainGlobals "used_from_outside" = some (some (.ref f_used_from_outside)))
    (l_used_from_outside : K.lookup f_used_from_outside = some ⟨oc_used_from_outside, od_used_from_outside, .func (PySem.W.fnOf "used_from_outside" "used_from_outside" (defArgs s_used_from_outside) (defBody s_used_from_outside) (defScope s_used_from_outside) .none kV_used_from_outside dc_used_from_outside pm_used_from_outside an_used_from_outside cd_used_from_outside ct_used_from_outside), sl_used_from_outside⟩)
    (c_used_from_outside : PySem.W.codeIn K cd_used_from_outside "used_from_outside" = true)
    (k_used_from_outside : PySem.W.keepIn K (.ref f_used_from_outside) = true)
    (a_lets_of : PySem.W.nsIn K mainGlobals "lets_of" = some (some (.ref f_lets_of)))
    (l_lets_of : K.lookup f_lets_of = some ⟨oc_lets_of, od_lets_of, .func (PySem.W.fnOf "lets_of" "lets_of" (defArgs s_lets_of) (defBody s_lets_of) (defScope s_lets_of) .none kV_lets_of dc_lets_of pm_lets_of an_lets_of cd_lets_of ct_lets_of), sl_lets_of⟩)
    (c_lets_of : PySem.W.codeIn K cd_lets_of "lets_of" = true)
    (k_lets_of : PySem.W.keepIn K (.ref f_lets_of) = true)
    (a_parts_of : PySem.W.nsIn K mainGlobals "parts_of" = some (some (.ref f_parts_of)))
    (l_parts_of : K.lookup f_parts_of = some ⟨oc_parts_of, od_parts_of, .func (PySem.W.fnOf "parts_of" "parts_of" (defArgs s_parts_of) (defBody s_parts_of) (defScope s_parts_of) .none kV_parts_of dc_parts_of pm_parts_of an_parts_of cd_parts_of ct_parts_of), sl_parts_of⟩)
    (c_parts_of : PySem.W.codeIn K cd_parts_of "parts_of" = true)
    (k_parts_of : PySem.W.keepIn K (.ref f_parts_of) = true)
    (a_marked : PySem.W.nsIn K mainGlobals "marked" = some (some (.ref f_marked)))
    (l_marked : K.lookup f_marked = some ⟨oc_marked, od_marked, .func (PySem.W.fnOf "marked" "marked" (defArgs s_marked) (defBody s_marked) (defScope s_marked) .none kV_marked dc_marked pm_marked an_marked cd_marked ct_marked), sl_marked⟩)
    (c_marked : PySem.W.codeIn K cd_marked "marked" = true)
    (k_marked : PySem.W.keepIn K (.ref f_marked) = true)
    (a_need_form : PySem.W.nsIn K mainGlobals "need_form" = some (some (.ref f_need_form)))
    (l_need_form : K.lookup f_need_form = some ⟨oc_need_form, od_need_form, .func (PySem.W.fnOf "need_form" "need_form" (defArgs s_need_form) (defBody s_need_form) (defScope s_need_form) .none kV_need_form dc_need_form pm_need_form an_need_form cd_need_form ct_need_form), sl_need_form⟩)
    (c_need_form : PySem.W.codeIn K cd_need_form "need_form" = true)
    (k_need_form : PySem.W.keepIn K (.ref f_need_form) = true)
    (a_pieces : PySem.W.nsIn K mainGlobals "pieces" = some (some (.ref f_pieces)))
    (l_pieces : K.lookup f_pieces = some ⟨oc_pieces, od_pieces, .func (PySem.W.fnOf "pieces" "pieces" (defArgs s_pieces) (defBody s_pieces) (defScope s_pieces) .none kV_pieces dc_pieces pm_pieces an_pieces cd_pieces ct_pieces), sl_pieces⟩)
    (c_pieces : PySem.W.codeIn K cd_pieces "pieces" = true)
    (k_pieces : PySem.W.keepIn K (.ref f_pieces) = true)
    (a_cut : PySem.W.nsIn K mainGlobals "cut" = some (some (.ref f_cut)))
    (l_cut : K.lookup f_cut = some ⟨oc_cut, od_cut, .func (PySem.W.fnOf "cut" "cut" (defArgs s_cut) (defBody s_cut) (defScope s_cut) .none kV_cut dc_cut pm_cut an_cut cd_cut ct_cut), sl_cut⟩)
    (c_cut : PySem.W.codeIn K cd_cut "cut" = true)
    (k_cut : PySem.W.keepIn K (.ref f_cut) = true)
    (a_source_of : PySem.W.nsIn K mainGlobals "source_of" = some (some (.ref f_source_of)))
    (l_source_of : K.lookup f_source_of = some ⟨oc_source_of, od_source_of, .func (PySem.W.fnOf "source_of" "source_of" (defArgs s_source_of) (defBody s_source_of) (defScope s_source_of) .none kV_source_of dc_source_of pm_source_of an_source_of cd_source_of ct_source_of), sl_source_of⟩)
    (c_source_of : PySem.W.codeIn K cd_source_of "source_of" = true)
    (k_source_of : PySem.W.keepIn K (.ref f_source_of) = true)
    (a_law : PySem.W.nsIn K mainGlobals "law" = some (some (.ref f_law)))
    (l_law : K.lookup f_law = some ⟨oc_law, od_law, .func (PySem.W.fnOf "law" "law" (defArgs s_law) (defBody s_law) (defScope s_law) .none kV_law dc_law pm_law an_law cd_law ct_law), sl_law⟩)
    (c_law : PySem.W.codeIn K cd_law "law" = true)
    (k_law : PySem.W.keepIn K (.ref f_law) = true)
    (m_Layout___init__ : PySem.W.findIn K (.ref C_Layout) "__init__" = some (some (.ref f_Layout___init__)))
    (i_Layout___init__ : PySem.W.isFn K (.ref f_Layout___init__) = true)
    (l_Layout___init__ : K.lookup f_Layout___init__ = some ⟨oc_Layout___init__, od_Layout___init__, .func (PySem.W.fnOf "__init__" "Layout.__init__" (defArgs s_Layout___init__) (defBody s_Layout___init__) (defScope s_Layout___init__) .none kV_Layout___init__ dc_Layout___init__ pm_Layout___init__ an_Layout___init__ cd_Layout___init__ ct_Layout___init__), sl_Layout___init__⟩)
    (c_Layout___init__ : PySem.W.codeIn K cd_Layout___init__ "Layout.__init__" = true)
    (k_Layout___init__ : PySem.W.keepIn K (.ref f_Layout___init__) = true)
    (m_Marker___init__ : PySem.W.findIn K (.ref C_Marker) "__init__" = some (some (.ref f_Marker___init__)))
    (i_Marker___init__ : PySem.W.isFn K (.ref f_Marker___init__) = true)
    (l_Marker___init__ : K.lookup f_Marker___init__ = some ⟨oc_Marker___init__, od_Marker___init__, .func (PySem.W.fnOf "__init__" "Marker.__init__" (defArgs s_Marker___init__) (defBody s_Marker___init__) (defScope s_Marker___init__) .none kV_Marker___init__ dc_Marker___init__ pm_Marker___init__ an_Marker___init__ cd_Marker___init__ ct_Marker___init__), sl_Marker___init__⟩)
    (c_Marker___init__ : PySem.W.codeIn K cd_Marker___init__ "Marker.__init__" = true)
    (k_Marker___init__ : PySem.W.keepIn K (.ref f_Marker___init__) = true)
    (m_Marker_mark : PySem.W.findIn K (.ref C_Marker) "mark" = some (some (.ref f_Marker_mark)))
    (i_Marker_mark : PySem.W.isFn K (.ref f_Marker_mark) = true)
    (l_Marker_mark : K.lookup f_Marker_mark = some ⟨oc_Marker_mark, od_Marker_mark, .func (PySem.W.fnOf "mark" "Marker.mark" (defArgs s_Marker_mark) (defBody s_Marker_mark) (defScope s_Marker_mark) .none kV_Marker_mark dc_Marker_mark pm_Marker_mark an_Marker_mark cd_Marker_mark ct_Marker_mark), sl_Marker_mark⟩)
    (c_Marker_mark : PySem.W.codeIn K cd_Marker_mark "Marker.mark" = true)
    (k_Marker_mark : PySem.W.keepIn K (.ref f_Marker_mark) = true)
    (m_Marker_next_site : PySem.W.findIn K (.ref C_Marker) "next_site" = some (some (.ref f_Marker_next_site)))
    (i_Marker_next_site : PySem.W.isFn K (.ref f_Marker_next_site) = true)
    (l_Marker_next_site : K.lookup f_Marker_next_site = some ⟨oc_Marker_next_site, od_Marker_next_site, .func (PySem.W.fnOf "next_site" "Marker.next_site" (defArgs s_Marker_next_site) (defBody s_Marker_next_site) (defScope s_Marker_next_site) .none kV_Marker_next_site dc_Marker_next_site pm_Marker_next_site an_Marker_next_site cd_Marker_next_site ct_Marker_next_site), sl_Marker_next_site⟩)
    (c_Marker_next_site : PySem.W.codeIn K cd_Marker_next_site "Marker.next_site" = true)
    (k_Marker_next_site : PySem.W.keepIn K (.ref f_Marker_next_site) = true)
    (g_HIGHEST_NUMBER : PySem.W.nsIn K mainGlobals "HIGHEST_NUMBER" = some (some (.int 999 t_HIGHEST_NUMBER)))
    (g_HIGHEST_NAME : PySem.W.nsIn K mainGlobals "HIGHEST_NAME" = some (some (.int 9 t_HIGHEST_NAME)))
    (g_MOST_EXPRESSIONS : PySem.W.nsIn K mainGlobals "MOST_EXPRESSIONS" = some (some (.int 60 t_MOST_EXPRESSIONS)))
    (g_MOST_AROUND : PySem.W.nsIn K mainGlobals "MOST_AROUND" = some (some (.int 7 t_MOST_AROUND)))
    (gF : PySem.W.nsIn K mainGlobals "FORMS" = some (some (.ref FA)))
    (lF : K.lookup FA = some ⟨.type "dict", none, .dict es nn, #[]⟩)
    (yF : PySem.W.KeysLit w.params es.toList)
    (oF : (FA == sysModules) = false)
    (q0 : PySem.W.nsIn K FA "num" = some (some (.ref p0)))
    (r0 : K.lookup p0 = some ⟨.type "tuple", po0, .seq #[.str "number" t0_0] pk0, ps0⟩)
    (q1 : PySem.W.nsIn K FA "name" = some (some (.ref p1)))
    (r1 : K.lookup p1 = some ⟨.type "tuple", po1, .seq #[.str "name" t1_0] pk1, ps1⟩)
    (q2 : PySem.W.nsIn K FA "plus" = some (some (.ref p2)))
    (r2 : K.lookup p2 = some ⟨.type "tuple", po2, .seq #[.str "part" t2_0, .str "part" t2_1] pk2, ps2⟩)
    (q3 : PySem.W.nsIn K FA "let" = some (some (.ref p3)))
    (r3 : K.lookup p3 = some ⟨.type "tuple", po3, .seq #[.str "name" t3_0, .str "part" t3_1, .str "part" t3_2] pk3, ps3⟩)
    (q4 : PySem.W.nsIn K FA "fun" = some (some (.ref p4)))
    (r4 : K.lookup p4 = some ⟨.type "tuple", po4, .seq #[.str "name" t4_0, .str "part" t4_1] pk4, ps4⟩)
    (q5 : PySem.W.nsIn K FA "call" = some (some (.ref p5)))
    (r5 : K.lookup p5 = some ⟨.type "tuple", po5, .seq #[.str "part" t5_0, .str "part" t5_1] pk5, ps5⟩)
    (q6 : PySem.W.nsIn K FA "if" = some (some (.ref p6)))
    (r6 : K.lookup p6 = some ⟨.type "tuple", po6, .seq #[.str "part" t6_0, .str "part" t6_1, .str "part" t6_2] pk6, ps6⟩)
    (z_len : PySem.W.nsIn K mainGlobals "len" = some none)
    (z_int : PySem.W.nsIn K mainGlobals "int" = some none)
    (z_sum : PySem.W.nsIn K mainGlobals "sum" = some none)
    (z_sorted : PySem.W.nsIn K mainGlobals "sorted" = some none)
    (z_isinstance : PySem.W.nsIn K mainGlobals "isinstance" = some none)
    (z_dict : PySem.W.nsIn K mainGlobals "dict" = some none)
    (z_tuple : PySem.W.nsIn K mainGlobals "tuple" = some none)
    (z_list : PySem.W.nsIn K mainGlobals "list" = some none)
    (z_set : PySem.W.nsIn K mainGlobals "set" = some none)
    (z_range : PySem.W.nsIn K mainGlobals "range" = some none)
    (z_str : PySem.W.nsIn K mainGlobals "str" = some none)
    (z_bool : PySem.W.nsIn K mainGlobals "bool" = some none)
    (z_zip : PySem.W.nsIn K mainGlobals "zip" = some none)
    (z_any : PySem.W.nsIn K mainGlobals "any" = some none)
    (z_max : PySem.W.nsIn K mainGlobals "max" = some none)
    (z_min : PySem.W.nsIn K mainGlobals "min" = some none)
    (z_enumerate : PySem.W.nsIn K mainGlobals "enumerate" = some none)
    (z_super : PySem.W.nsIn K mainGlobals "super" = some none)
    : ∃ fd : FuncData, (∀ (s : Shared) (v : Value), BindsTo s fd ⟨[v], []⟩ [("_law_script", v)]) ∧ ∀ base : Heap, K.In base → base.Ns mainGlobals mg → FnOk l.prog w K mg base CX0 31 fa fd ["_law_script"] (spLaw K) := by
  have e := hfa.symm.trans (PySem.W.mg_of X G a_law)
  cases e
  have F_is_whole := fun_mk (st := s_is_whole) l_is_whole c_is_whole k_is_whole
  have b_is_whole := F_is_whole.binds (ps := P_is_whole) fun _ _ _ _ _ _ us hl => match us, hl with | [_, _, _], _ => rfl
  have F_Layout___init__ := fun_mk (st := s_Layout___init__) l_Layout___init__ c_Layout___init__ k_Layout___init__
  have b_Layout___init__ := F_Layout___init__.binds (ps := P_Layout___init__) fun _ _ _ _ _ _ us hl => match us, hl with | [_, _, _], _ => rfl
  have F_layouts_of := fun_mk (st := s_layouts_of) l_layouts_of c_layouts_of k_layouts_of
  have b_layouts_of := F_layouts_of.binds (ps := P_layouts_of) fun _ _ _ _ _ _ us hl => match us, hl with | [_], _ => rfl
  have F_used_from_outside := fun_mk (st := s_used_from_outside) l_used_from_outside c_used_from_outside k_used_from_outside
  have b_used_from_outside := F_used_from_outside.binds (ps := P_used_from_outside) fun _ _ _ _ _ _ us hl => match us, hl with | [_, _], _ => rfl
  have F_lets_of := fun_mk (st := s_lets_of) l_lets_of c_lets_of k_lets_of
  have b_lets_of := F_lets_of.binds (ps := P_lets_of) fun _ _ _ _ _ _ us hl => match us, hl with | [_], _ => rfl
  have F_parts_of := fun_mk (st := s_parts_of) l_parts_of c_parts_of k_parts_of
  have b_parts_of := F_parts_of.binds (ps := P_parts_of) fun _ _ _ _ _ _ us hl => match us, hl with | [_], _ => rfl
  have F_marked := fun_mk (st := s_marked) l_marked c_marked k_marked
  have b_marked := F_marked.binds (ps := P_marked) fun _ _ _ _ _ _ us hl => match us, hl with | [_], _ => rfl
  have F_Marker___init__ := fun_mk (st := s_Marker___init__) l_Marker___init__ c_Marker___init__ k_Marker___init__
  have b_Marker___init__ := F_Marker___init__.binds (ps := P_Marker___init__) fun _ _ _ _ _ _ us hl => match us, hl with | [_], _ => rfl
  have F_Marker_mark := fun_mk (st := s_Marker_mark) l_Marker_mark c_Marker_mark k_Marker_mark
  have b_Marker_mark := F_Marker_mark.binds (ps := P_Marker_mark) fun _ _ _ _ _ _ us hl => match us, hl with | [_, _, _, _], _ => rfl
  have F_Marker_next_site := fun_mk (st := s_Marker_next_site) l_Marker_next_site c_Marker_next_site k_Marker_next_site
  have b_Marker_next_site := F_Marker_next_site.binds (ps := P_Marker_next_site) fun _ _ _ _ _ _ us hl => match us, hl with | [_], _ => rfl
  have F_need_form := fun_mk (st := s_need_form) l_need_form c_need_form k_need_form
  have b_need_form := F_need_form.binds (ps := P_need_form) fun _ _ _ _ _ _ us hl => match us, hl with | [_], _ => rfl
  have F_pieces := fun_mk (st := s_pieces) l_pieces c_pieces k_pieces
  have b_pieces := F_pieces.binds (ps := P_pieces) fun _ _ _ _ _ _ us hl => match us, hl with | [_], _ => rfl
  have F_cut := fun_mk (st := s_cut) l_cut c_cut k_cut
  have b_cut := F_cut.binds (ps := P_cut) fun _ _ _ _ _ _ us hl => match us, hl with | [_, _, _], _ => rfl
  have F_source_of := fun_mk (st := s_source_of) l_source_of c_source_of k_source_of
  have b_source_of := F_source_of.binds (ps := P_source_of) fun _ _ _ _ _ _ us hl => match us, hl with | [_, _], _ => rfl
  have F_l_taken := fun_mk (st := s_l_taken) l_l_taken c_l_taken k_l_taken
  have b_l_taken := F_l_taken.binds (ps := P_l_taken) fun _ _ _ _ _ _ us hl => match us, hl with | [_, _], _ => rfl
  have F_l_alike := fun_mk (st := s_l_alike) l_l_alike c_l_alike k_l_alike
  have b_l_alike := F_l_alike.binds (ps := P_l_alike) fun _ _ _ _ _ _ us hl => match us, hl with | [_, _], _ => rfl
  have F_l_names := fun_mk (st := s_l_names) l_l_names c_l_names k_l_names
  have b_l_names := F_l_names.binds (ps := P_l_names) fun _ _ _ _ _ _ us hl => match us, hl with | [_, _], _ => rfl
  have F_l_bound := fun_mk (st := s_l_bound) l_l_bound c_l_bound k_l_bound
  have b_l_bound := F_l_bound.binds (ps := P_l_bound) fun _ _ _ _ _ _ us hl => match us, hl with | [_, _, _], _ => rfl
  have F_l_leaf := fun_mk (st := s_l_leaf) l_l_leaf c_l_leaf k_l_leaf
  have b_l_leaf := F_l_leaf.binds (ps := P_l_leaf) fun _ _ _ _ _ _ us hl => match us, hl with | [_, _, _], _ => rfl
  have F_l_e := fun_mk (st := s_l_e) l_l_e c_l_e k_l_e
  have b_l_e := F_l_e.binds (ps := P_l_e) fun _ _ _ _ _ _ us hl => match us, hl with | [_, _, _, _, _], _ => rfl
  have F_l_size := fun_mk (st := s_l_size) l_l_size c_l_size k_l_size
  have b_l_size := F_l_size.binds (ps := P_l_size) fun _ _ _ _ _ _ us hl => match us, hl with | [_], _ => rfl
  have F_l_small := fun_mk (st := s_l_small) l_l_small c_l_small k_l_small
  have b_l_small := F_l_small.binds (ps := P_l_small) fun _ _ _ _ _ _ us hl => match us, hl with | [_, _], _ => rfl
  have F_l_makers := fun_mk (st := s_l_makers) l_l_makers c_l_makers k_l_makers
  have b_l_makers := F_l_makers.binds (ps := P_l_makers) fun _ _ _ _ _ _ us hl => match us, hl with | [_], _ => rfl
  have F_l_side := fun_mk (st := s_l_side) l_l_side c_l_side k_l_side
  have b_l_side := F_l_side.binds (ps := P_l_side) fun _ _ _ _ _ _ us hl => match us, hl with | [_, _], _ => rfl
  have F_l_broad := fun_mk (st := s_l_broad) l_l_broad c_l_broad k_l_broad
  have b_l_broad := F_l_broad.binds (ps := P_l_broad) fun _ _ _ _ _ _ us hl => match us, hl with | [_], _ => rfl
  have F_l_far := fun_mk (st := s_l_far) l_l_far c_l_far k_l_far
  have b_l_far := F_l_far.binds (ps := P_l_far) fun _ _ _ _ _ _ us hl => match us, hl with | [_], _ => rfl
  have F_l_program := fun_mk (st := s_l_program) l_l_program c_l_program k_l_program
  have b_l_program := F_l_program.binds (ps := P_l_program) fun _ _ _ _ _ _ us hl => match us, hl with | [_, _], _ => rfl
  have F_l_parts := fun_mk (st := s_l_parts) l_l_parts c_l_parts k_l_parts
  have b_l_parts := F_l_parts.binds (ps := P_l_parts) fun _ _ _ _ _ _ us hl => match us, hl with | [_], _ => rfl
  have F_l_count := fun_mk (st := s_l_count) l_l_count c_l_count k_l_count
  have b_l_count := F_l_count.binds (ps := P_l_count) fun _ _ _ _ _ _ us hl => match us, hl with | [_], _ => rfl
  have F_l_marked := fun_mk (st := s_l_marked) l_l_marked c_l_marked k_l_marked
  have b_l_marked := F_l_marked.binds (ps := P_l_marked) fun _ _ _ _ _ _ us hl => match us, hl with | [_, _], _ => rfl
  have F_l_free := fun_mk (st := s_l_free) l_l_free c_l_free k_l_free
  have b_l_free := F_l_free.binds (ps := P_l_free) fun _ _ _ _ _ _ us hl => match us, hl with | [_, _], _ => rfl
  have F_l_uses := fun_mk (st := s_l_uses) l_l_uses c_l_uses k_l_uses
  have b_l_uses := F_l_uses.binds (ps := P_l_uses) fun _ _ _ _ _ _ us hl => match us, hl with | [_, _], _ => rfl
  have F_l_owners := fun_mk (st := s_l_owners) l_l_owners c_l_owners k_l_owners
  have b_l_owners := F_l_owners.binds (ps := P_l_owners) fun _ _ _ _ _ _ us hl => match us, hl with | [_, _], _ => rfl
  have F_l_source := fun_mk (st := s_l_source) l_l_source c_l_source k_l_source
  have b_l_source := F_l_source.binds (ps := P_l_source) fun _ _ _ _ _ _ us hl => match us, hl with | [_, _, _, _], _ => rfl
  have F_l_cut := fun_mk (st := s_l_cut) l_l_cut c_l_cut k_l_cut
  have b_l_cut := F_l_cut.binds (ps := P_l_cut) fun _ _ _ _ _ _ us hl => match us, hl with | [_, _, _, _, _], _ => rfl
  have F_l_funs := fun_mk (st := s_l_funs) l_l_funs c_l_funs k_l_funs
  have b_l_funs := F_l_funs.binds (ps := P_l_funs) fun _ _ _ _ _ _ us hl => match us, hl with | [_, _], _ => rfl
  have F_law := fun_mk (st := s_law) l_law c_law k_law
  have b_law := F_law.binds (ps := P_law) fun _ _ _ _ _ _ us hl => match us, hl with | [_], _ => rfl
  have Bs : Bi mg := ⟨PySem.W.mg_none_of X G z_len, PySem.W.mg_none_of X G z_int, PySem.W.mg_none_of X G z_sum, PySem.W.mg_none_of X G z_sorted, PySem.W.mg_none_of X G z_isinstance, PySem.W.mg_none_of X G z_dict, PySem.W.mg_none_of X G z_tuple, PySem.W.mg_none_of X G z_list, PySem.W.mg_none_of X G z_set, PySem.W.mg_none_of X G z_range, PySem.W.mg_none_of X G z_str, PySem.W.mg_none_of X G z_bool, PySem.W.mg_none_of X G z_zip, PySem.W.mg_none_of X G z_any, PySem.W.mg_none_of X G z_max, PySem.W.mg_none_of X G z_min, PySem.W.mg_none_of X G z_enumerate, PySem.W.mg_none_of X G z_super⟩
  have T : Tx K mg := ⟨Bs, ⟨_, _, F_l_taken, b_l_taken, PySem.W.mg_of X G a_l_taken⟩, ⟨_, _, F_l_alike, b_l_alike, PySem.W.mg_of X G a_l_alike⟩, ⟨_, _, F_l_names, b_l_names, PySem.W.mg_of X G a_l_names⟩, ⟨_, _, F_l_bound, b_l_bound, PySem.W.mg_of X G a_l_bound⟩, ⟨_, _, F_l_leaf, b_l_leaf, PySem.W.mg_of X G a_l_leaf⟩, ⟨_, _, F_l_e, b_l_e, PySem.W.mg_of X G a_l_e⟩, ⟨_, _, F_l_size, b_l_size, PySem.W.mg_of X G a_l_size⟩, ⟨_, _, F_l_small, b_l_small, PySem.W.mg_of X G a_l_small⟩, ⟨_, _, F_l_makers, b_l_makers, PySem.W.mg_of X G a_l_makers⟩, ⟨_, _, F_l_side, b_l_side, PySem.W.mg_of X G a_l_side⟩, ⟨_, _, F_l_broad, b_l_broad, PySem.W.mg_of X G a_l_broad⟩, ⟨_, _, F_l_far, b_l_far, PySem.W.mg_of X G a_l_far⟩, ⟨_, _, F_l_program, b_l_program, PySem.W.mg_of X G a_l_program⟩, ⟨_, _, F_l_parts, b_l_parts, PySem.W.mg_of X G a_l_parts⟩, ⟨_, _, F_l_count, b_l_count, PySem.W.mg_of X G a_l_count⟩, ⟨_, _, F_l_marked, b_l_marked, PySem.W.mg_of X G a_l_marked⟩, ⟨_, _, F_l_free, b_l_free, PySem.W.mg_of X G a_l_free⟩, ⟨_, _, F_l_uses, b_l_uses, PySem.W.mg_of X G a_l_uses⟩, ⟨_, _, F_l_owners, b_l_owners, PySem.W.mg_of X G a_l_owners⟩, ⟨_, _, F_l_source, b_l_source, PySem.W.mg_of X G a_l_source⟩, ⟨_, _, F_l_cut, b_l_cut, PySem.W.mg_of X G a_l_cut⟩, ⟨_, _, F_l_funs, b_l_funs, PySem.W.mg_of X G a_l_funs⟩⟩
  have FM : Fm K w mg := ⟨FA, PySem.W.mg_of X G gF, es, nn, ⟨lF, yF, oF⟩, fun c l m => by
    simp only [List.mem_cons, Prod.mk.injEq, List.not_mem_nil, or_false] at m
    rcases m with ⟨rfl, rfl⟩ | ⟨rfl, rfl⟩ | ⟨rfl, rfl⟩ | ⟨rfl, rfl⟩ | ⟨rfl, rfl⟩ | ⟨rfl, rfl⟩ | ⟨rfl, rfl⟩
    · exact ⟨_, _, _, _, q0, r0, rfl, rfl, Nat.le_of_ble_eq_true rfl, .cons ⟨_, rfl⟩ (.nil)⟩
    · exact ⟨_, _, _, _, q1, r1, rfl, rfl, Nat.le_of_ble_eq_true rfl, .cons ⟨_, rfl⟩ (.nil)⟩
    · exact ⟨_, _, _, _, q2, r2, rfl, rfl, Nat.le_of_ble_eq_true rfl, .cons ⟨_, rfl⟩ (.cons ⟨_, rfl⟩ (.nil))⟩
    · exact ⟨_, _, _, _, q3, r3, rfl, rfl, Nat.le_of_ble_eq_true rfl, .cons ⟨_, rfl⟩ (.cons ⟨_, rfl⟩ (.cons ⟨_, rfl⟩ (.nil)))⟩
    · exact ⟨_, _, _, _, q4, r4, rfl, rfl, Nat.le_of_ble_eq_true rfl, .cons ⟨_, rfl⟩ (.cons ⟨_, rfl⟩ (.nil))⟩
    · exact ⟨_, _, _, _, q5, r5, rfl, rfl, Nat.le_of_ble_eq_true rfl, .cons ⟨_, rfl⟩ (.cons ⟨_, rfl⟩ (.nil))⟩
    · exact ⟨_, _, _, _, q6, r6, rfl, rfl, Nat.le_of_ble_eq_true rfl, .cons ⟨_, rfl⟩ (.cons ⟨_, rfl⟩ (.cons ⟨_, rfl⟩ (.nil)))⟩⟩
  have TP : Tp K w mg := ⟨Bs, FM, _, PySem.W.mg_of X G g_HIGHEST_NUMBER, _, PySem.W.mg_of X G g_HIGHEST_NAME, _, PySem.W.mg_of X G g_MOST_EXPRESSIONS, _, PySem.W.mg_of X G g_MOST_AROUND, ⟨_, _, F_is_whole, b_is_whole, PySem.W.mg_of X G a_is_whole⟩, ⟨_, _, F_layouts_of, b_layouts_of, PySem.W.mg_of X G a_layouts_of⟩, ⟨_, _, F_used_from_outside, b_used_from_outside, PySem.W.mg_of X G a_used_from_outside⟩, ⟨_, _, F_lets_of, b_lets_of, PySem.W.mg_of X G a_lets_of⟩, ⟨_, _, F_parts_of, b_parts_of, PySem.W.mg_of X G a_parts_of⟩, ⟨_, _, F_marked, b_marked, PySem.W.mg_of X G a_marked⟩, ⟨_, _, F_need_form, b_need_form, PySem.W.mg_of X G a_need_form⟩, ⟨_, _, F_pieces, b_pieces, PySem.W.mg_of X G a_pieces⟩, ⟨_, _, F_cut, b_cut, PySem.W.mg_of X G a_cut⟩, ⟨_, _, F_source_of, b_source_of, PySem.W.mg_of X G a_source_of⟩, C_Layout, PySem.W.mg_of X G aC_Layout, ⟨pg_Layout, hd_Layout, po_Layout, sa_Layout⟩, n_Layout_site, n_Layout_body, n_Layout_used, n_Layout_sites, n_Layout_housed, ⟨_, _, F_Layout___init__, b_Layout___init__, ⟨m_Layout___init__, i_Layout___init__, k_Layout___init__⟩⟩, ⟨mk_Layout, m_Layout___init__, i_Layout___init__, kc_Layout⟩, C_Marker, PySem.W.mg_of X G aC_Marker, ⟨pg_Marker, hd_Marker, po_Marker, sa_Marker⟩, n_Marker_expressions, n_Marker_sites, ⟨_, _, F_Marker___init__, b_Marker___init__, ⟨m_Marker___init__, i_Marker___init__, k_Marker___init__⟩⟩, ⟨mk_Marker, m_Marker___init__, i_Marker___init__, kc_Marker⟩, ⟨_, _, F_Marker_mark, b_Marker_mark, ⟨m_Marker_mark, i_Marker_mark, k_Marker_mark⟩⟩, ⟨_, _, F_Marker_next_site, b_Marker_next_site, ⟨m_Marker_next_site, i_Marker_next_site, k_Marker_next_site⟩⟩⟩
  exact ⟨PySem.W.fnOf "law" "law" (defArgs s_law) (defBody s_law) (defScope s_law) .none kV_law dc_law pm_law an_law cd_law ct_law, fun s v => .of_eq rfl, fun base _ _ => ok_law T TP ⟨_, _, F_law, b_law, PySem.W.mg_of X G a_law⟩⟩
theorem walk {l : PySem.W.OpenLaw} {q : Program} {loose : List Str} {XP : (Str → Option Value) → Heap → Prop} {YP : World → Heap → Prop} {d : DefRec} {K : Params → PySem.W.Frag} (hn : l.most = some 63) (hdf : d.params.defaults = [])
    (hY : ∀ (w : World) (h : Heap), YP w h → (K w.params).In h)
    (F : ∀ (w : World) (mg : Str → Option Value) (fa : Addr) (h : Heap), (K w.params).In h → h.Ns mainGlobals mg → mg d.name = some (.ref fa) →
      ∃ fd : FuncData, (∀ (s : Shared) (u : Value), BindsTo s fd ⟨[u], []⟩ [("_law_script", u)]) ∧ ∀ base : Heap, (K w.params).In base → base.Ns mainGlobals mg → FnOk l.prog w (K w.params) mg base CX0 31 fa fd ["_law_script"] (spLaw (K w.params))) :
    PySem.W.WalkO q loose XP YP l.row.toRowW d [] (fun f vs => PySem.call f vs) :=
  L2.walk_of (n := 63) (k := 31) (x := "_law_script") (CX := fun _ => CX0) (sp := fun w => spLaw (K w.params)) hn (by decide) hdf ⟨rfl, by decide, by decide⟩ hY F (fun _ _ a ns hl _ hS => ⟨⟨a, ns⟩, rfl, hS, hl, fun _ => rfl⟩) fun _ _ _ _ _ z => z
end Env
open PySem PySem.W PyProof.Rows in
set_option maxRecDepth 100000 in
set_option maxHeartbeats 0 in
theorem PySem.Challenge.cw_envways_k09_pieces_laid_out_holds : PySem.Challenge.rw_envways_k09_pieces_laid_out.Holds := by
  w_on; o_law; k_head; (case hw => w_witness2)
  k_fill
  refine Env.walk (l := PySem.Challenge.rw_envways_k09_pieces_laid_out) rfl rfl (fun w h Y => PySem.W.kIn_of Y) ?F
  case F =>
    intro w mg fa h KX G hmg
    refine' Env.all_mk KX G hmg ?aC_Layout ?pg_Layout ?hd_Layout ?po_Layout ?sa_Layout ?mk_Layout ?kc_Layout ?n_Layout_site ?n_Layout_body ?n_Layout_used ?n_Layout_sites ?n_Layout_housed ?aC_Marker ?pg_Marker ?hd_Marker ?po_Marker ?sa_Marker ?mk_Marker ?kc_Marker ?n_Marker_expressions ?n_Marker_sites ?a_l_taken ?l_l_taken ?c_l_taken ?k_l_taken ?a_l_alike ?l_l_alike ?c_l_alike ?k_l_alike ?a_l_names ?l_l_names ?c_l_names ?k_l_names ?a_l_bound ?l_l_bound ?c_l_bound ?k_l_bound ?a_l_leaf ?l_l_leaf ?c_l_leaf ?k_l_leaf ?a_l_e ?l_l_e ?c_l_e ?k_l_e ?a_l_size ?l_l_size ?c_l_size ?k_l_size ?a_l_small ?l_l_small ?c_l_small ?k_l_small ?a_l_makers ?l_l_makers ?c_l_makers ?k_l_makers ?a_l_side ?l_l_side ?c_l_side ?k_l_side ?a_l_broad ?l_l_broad ?c_l_broad ?k_l_broad ?a_l_far ?l_l_far ?c_l_far ?k_l_far ?a_l_program ?l_l_program ?c_l_program ?k_l_program ?a_l_parts ?l_l_parts ?c_l_parts ?k_l_parts ?a_l_count ?l_l_count ?c_l_count ?k_l_count ?a_l_marked ?l_l_marked ?c_l_marked ?k_l_marked ?a_l_free ?l_l_free ?c_l_free ?k_l_free ?a_l_uses ?l_l_uses ?c_l_uses ?k_l_uses ?a_l_owners ?l_l_owners ?c_l_owners ?k_l_owners ?a_l_source ?l_l_source ?c_l_source ?k_l_source ?a_l_cut ?l_l_cut ?c_l_cut ?k_l_cut ?a_l_funs ?l_l_funs ?c_l_funs ?k_l_funs ?a_is_whole ?l_is_whole ?c_is_whole ?k_is_whole ?a_layouts_of ?l_layouts_of ?c_layouts_of ?k_layouts_of ?a_used_from_outside ?l_used_from_outside ?c_used_from_outside ?k_used_from_outside ?a_lets_of ?l_lets_of ?c_lets_of ?k_lets_of ?a_parts_of ?l_parts_of ?c_parts_of ?k_parts_of ?a_marked ?l_marked ?c_marked ?k_marked ?a_need_form ?l_need_form ?c_need_form ?k_need_form ?a_pieces ?l_pieces ?c_pieces ?k_pieces ?a_cut ?l_cut ?c_cut ?k_cut ?a_source_of ?l_source_of ?c_source_of ?k_source_of ?a_law ?l_law ?c_law ?k_law ?m_Layout___init__ ?i_Layout___init__ ?l_Layout___init__ ?c_Layout___init__ ?k_Layout___init__ ?m_Marker___init__ ?i_Marker___init__ ?l_Marker___init__ ?c_Marker___init__ ?k_Marker___init__ ?m_Marker_mark ?i_Marker_mark ?l_Marker_mark ?c_Marker_mark ?k_Marker_mark ?m_Marker_next_site ?i_Marker_next_site ?l_Marker_next_site ?c_Marker_next_site ?k_Marker_next_site ?g_HIGHEST_NUMBER ?g_HIGHEST_NAME ?g_MOST_EXPRESSIONS ?g_MOST_AROUND ?gF ?lF ?yF ?oF ?q0 ?r0 ?q1 ?r1 ?q2 ?r2 ?q3 ?r3 ?q4 ?r4 ?q5 ?r5 ?q6 ?r6 ?z_len ?z_int ?z_sum ?z_sorted ?z_isinstance ?z_dict ?z_tuple ?z_list ?z_set ?z_range ?z_str ?z_bool ?z_zip ?z_any ?z_max ?z_min ?z_enumerate ?z_super
    (case aC_Layout => k_is)
    (case pg_Layout => k_is)
    (case hd_Layout => k_is)
    (case po_Layout => k_is)
    (case sa_Layout => k_is)
    (case mk_Layout => k_is)
    (case kc_Layout => k_is)
    (case n_Layout_site => k_is)
    (case n_Layout_body => k_is)
    (case n_Layout_used => k_is)
    (case n_Layout_sites => k_is)
    (case n_Layout_housed => k_is)
    (case aC_Marker => k_is)
    (case pg_Marker => k_is)
    (case hd_Marker => k_is)
    (case po_Marker => k_is)
    (case sa_Marker => k_is)
    (case mk_Marker => k_is)
    (case kc_Marker => k_is)
    (case n_Marker_expressions => k_is)
    (case n_Marker_sites => k_is)
    (case a_l_taken => k_is)
    (case l_l_taken => k_is)
    (case c_l_taken => k_is)
    (case k_l_taken => k_is)
    (case a_l_alike => k_is)
    (case l_l_alike => k_is)
    (case c_l_alike => k_is)
    (case k_l_alike => k_is)
    (case a_l_names => k_is)
    (case l_l_names => k_is)
    (case c_l_names => k_is)
    (case k_l_names => k_is)
    (case a_l_bound => k_is)
    (case l_l_bound => k_is)
    (case c_l_bound => k_is)
    (case k_l_bound => k_is)
    (case a_l_leaf => k_is)
    (case l_l_leaf => k_is)
    (case c_l_leaf => k_is)
    (case k_l_leaf => k_is)
    (case a_l_e => k_is)
    (case l_l_e => k_is)
    (case c_l_e => k_is)
    (case k_l_e => k_is)
    (case a_l_size => k_is)
    (case l_l_size => k_is)
    (case c_l_size => k_is)
    (case k_l_size => k_is)
    (case a_l_small => k_is)
    (case l_l_small => k_is)
    (case c_l_small => k_is)
    (case k_l_small => k_is)
    (case a_l_makers => k_is)
    (case l_l_makers => k_is)
    (case c_l_makers => k_is)
    (case k_l_makers => k_is)
    (case a_l_side => k_is)
    (case l_l_side => k_is)
    (case c_l_side => k_is)
    (case k_l_side => k_is)
    (case a_l_broad => k_is)
    (case l_l_broad => k_is)
    (case c_l_broad => k_is)
    (case k_l_broad => k_is)
    (case a_l_far => k_is)
    (case l_l_far => k_is)
    (case c_l_far => k_is)
    (case k_l_far => k_is)
    (case a_l_program => k_is)
    (case l_l_program => k_is)
    (case c_l_program => k_is)
    (case k_l_program => k_is)
    (case a_l_parts => k_is)
    (case l_l_parts => k_is)
    (case c_l_parts => k_is)
    (case k_l_parts => k_is)
    (case a_l_count => k_is)
    (case l_l_count => k_is)
    (case c_l_count => k_is)
    (case k_l_count => k_is)
    (case a_l_marked => k_is)
    (case l_l_marked => k_is)
    (case c_l_marked => k_is)
    (case k_l_marked => k_is)
    (case a_l_free => k_is)
    (case l_l_free => k_is)
    (case c_l_free => k_is)
    (case k_l_free => k_is)
    (case a_l_uses => k_is)
    (case l_l_uses => k_is)
    (case c_l_uses => k_is)
    (case k_l_uses => k_is)
    (case a_l_owners => k_is)
    (case l_l_owners => k_is)
    (case c_l_owners => k_is)
    (case k_l_owners => k_is)
    (case a_l_source => k_is)
    (case l_l_source => k_is)
    (case c_l_source => k_is)
    (case k_l_source => k_is)
    (case a_l_cut => k_is)
    (case l_l_cut => k_is)
    (case c_l_cut => k_is)
    (case k_l_cut => k_is)
    (case a_l_funs => k_is)
    (case l_l_funs => k_is)
    (case c_l_funs => k_is)
    (case k_l_funs => k_is)
    (case a_is_whole => k_is)
    (case l_is_whole => k_is)
    (case c_is_whole => k_is)
    (case k_is_whole => k_is)
    (case a_layouts_of => k_is)
    (case l_layouts_of => k_is)
    (case c_layouts_of => k_is)
    (case k_layouts_of => k_is)
    (case a_used_from_outside => k_is)
    (case l_used_from_outside => k_is)
    (case c_used_from_outside => k_is)
    (case k_used_from_outside => k_is)
    (case a_lets_of => k_is)
    (case l_lets_of => k_is)
    (case c_lets_of => k_is)
    (case k_lets_of => k_is)
    (case a_parts_of => k_is)
    (case l_parts_of => k_is)
    (case c_parts_of => k_is)
    (case k_parts_of => k_is)
    (case a_marked => k_is)
    (case l_marked => k_is)
    (case c_marked => k_is)
    (case k_marked => k_is)
    (case a_need_form => k_is)
    (case l_need_form => k_is)
    (case c_need_form => k_is)
    (case k_need_form => k_is)
    (case a_pieces => k_is)
    (case l_pieces => k_is)
    (case c_pieces => k_is)
    (case k_pieces => k_is)
    (case a_cut => k_is)
    (case l_cut => k_is)
    (case c_cut => k_is)
    (case k_cut => k_is)
    (case a_source_of => k_is)
    (case l_source_of => k_is)
    (case c_source_of => k_is)
    (case k_source_of => k_is)
    (case a_law => k_is)
    (case l_law => k_is)
    (case c_law => k_is)
    (case k_law => k_is)
    (case m_Layout___init__ => k_is)
    (case i_Layout___init__ => k_is)
    (case l_Layout___init__ => k_is)
    (case c_Layout___init__ => k_is)
    (case k_Layout___init__ => k_is)
    (case m_Marker___init__ => k_is)
    (case i_Marker___init__ => k_is)
    (case l_Marker___init__ => k_is)
    (case c_Marker___init__ => k_is)
    (case k_Marker___init__ => k_is)
    (case m_Marker_mark => k_is)
    (case i_Marker_mark => k_is)
    (case l_Marker_mark => k_is)
    (case c_Marker_mark => k_is)
    (case k_Marker_mark => k_is)
    (case m_Marker_next_site => k_is)
    (case i_Marker_next_site => k_is)
    (case l_Marker_next_site => k_is)
    (case c_Marker_next_site => k_is)
    (case k_Marker_next_site => k_is)
    (case g_HIGHEST_NUMBER => k_is)
    (case g_HIGHEST_NAME => k_is)
    (case g_MOST_EXPRESSIONS => k_is)
    (case g_MOST_AROUND => k_is)
    (case gF => k_is)
    (case lF => k_is)
    (case yF => k_keys)
    (case oF => decide)
    (case q0 => k_is)
    (case r0 => k_is)
    (case q1 => k_is)
    (case r1 => k_is)
    (case q2 => k_is)
    (case r2 => k_is)
    (case q3 => k_is)
    (case r3 => k_is)
    (case q4 => k_is)
    (case r4 => k_is)
    (case q5 => k_is)
    (case r5 => k_is)
    (case q6 => k_is)
    (case r6 => k_is)
    (case z_len => k_is)
    (case z_int => k_is)
    (case z_sum => k_is)
    (case z_sorted => k_is)
    (case z_isinstance => k_is)
    (case z_dict => k_is)
    (case z_tuple => k_is)
    (case z_list => k_is)
    (case z_set => k_is)
    (case z_range => k_is)
    (case z_str => k_is)
    (case z_bool => k_is)
    (case z_zip => k_is)
    (case z_any => k_is)
    (case z_max => k_is)
    (case z_min => k_is)
    (case z_enumerate => k_is)
    (case z_super => k_is)
#print axioms PySem.Challenge.cw_envways_k09_pieces_laid_out_holds
end
