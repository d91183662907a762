import PyProof.Rows.All
import Wide.All
import OpenK.AllK
import Wide.FinOn
import HandS.TupSets
import HandS.SortRule
import HandS.SetFor
import HandS.ForMost
import HandS.ForExc
import HandS.TupLe
import HandS.TupAny
import HandS.TupMul
import HandS.Deep
import HandS.Text
import HandS.DictTup
import HandS.TupLen
import HandS.Style
import HandS.Small
import HandS.Conv
import HandS.StrMore
import HandS.CallSlots
import HandS.ExcIs
import HandS.ExcField
import KE.LtData
import KE.KExcIs
import HandS.Words
import HandS.Ends
import HandS.IsInst
import PyProof.StrOps2
import HandS.CallLocal
import HandS.Gcd
import KE.SortData
import KE.KDictOf
import HandS.More
import HandS.Replace
import PyProof.Draws
import PyProof.EnumMake
import PyProof.TupleIter
import HandS.Comp
import HandS.Iter
import KE.KDictWalk
import KE.KDictPairs
import HandS.DictComp
import HandS.ExcInit
import HandS.WordsExc
import HandS.Zip
import HandS.Codes
import PySem.Challenge.RW_shorewarn_k27_refutations_checked
set_option Elab.async false
set_option linter.all false
set_option maxRecDepth 100000
set_option maxHeartbeats 0
/-! set(t) of a tuple of tuples; sorted(set) of pairs of any ints: at the machine's level -/
namespace PuM
open PySem PySem.Spec PyProof.Rows
open L2 (IsT SetTR Got call_set_tups set_update_tups setTR_fresh tupInts_of)
section
variable {P : Program} {w : World} {A : Around} {E : Value → Shared → Prop} {s : Shared}
/-- the empty set as it is made -/
abbrev emptySet (w : World) : Obj := { cls := .type "set", dict := none, data := .set #[] 0 (.fresh 0 0 (!w.params.followText "set-order")) }
theorem gone_behind {h : Heap} {b : Addr} (hb : h.objs.size ≤ b) : h.get? b = none := by
  cases q : h.get? b with
  | none => rfl
  | some o => exact absurd (Nat.lt_of_lt_of_le (Heap.lt_size q) hb) (Nat.lt_irrefl _)
theorem set_of_tuple {l : Addr} {items : Array Value} (ks : List (Addr × List Int)) {Q : Value → Shared → Prop} (hh : A.handled = none) (hl : s.heap.IsTuple l items) (hit : items.toList = ks.map fun p => Value.ref p.1)
    (hk : ∀ p ∈ ks, IsT P w s.heap p.2 p.1) (hfew : ks.length < 64) (hu : A.units + 3 < cLine)
    (fin : ∀ (h' : Heap) (tk : Nat) L es ep t, SetTR P w h' s.heap.objs.size L es ep t → Got ks ks.length L → (∀ b o, s.heap.get? b = some o → h'.get? b = some o) → Q (.ref s.heap.objs.size) { s with heap := h', toks := tk }) :
    wpAny (model P w) A (call (.type "set") [.ref l]) Q E s := by
  have cnt : items.size = ks.length := by
    have q := congrArg List.length hit
    rwa [Array.length_toList, List.length_map] at q
  obtain ⟨c, tl, hmro⟩ := F.called_set.mro
  have f1 := F.called_set.made
  have f2 := F.called_set.sub
  refine wpAny_call (codeAny_of_tree ?_)
  show wpAny _ _ (callAny (.type "set") _) _ _ _
  refine wpAny_pure ⟨Code.quiet_builtin _ (by decide +kernel), codeAny_builtin F.entry_type_call ?_⟩
  rw [Around.under_plain (weight_type_call_type "set" [.ref l] []) rfl]
  have f3 := F.called_set.notType
  have f4 := F.called_set.canCreate
  have f5 := F.typeCall_set_1 (.ref l)
  repeat (any_goals (first | assumption | wp_step))
  refine codeAny_mono (L2.code_set_led1 (.ref l) (E := E) (Q₁ := fun v u => v = .ref s.heap.objs.size ∧ u = { s with heap := s.heap.push (emptySet w) }) ⟨rfl, rfl⟩) fun r s₁ hr => ?_
  rcases r with er | fl
  · exact hr
  cases fl with
  | next => exact hr.elim
  | brk => exact hr.elim
  | cont => exact hr.elim
  | ret v =>
    obtain ⟨rfl, rfl⟩ := hr
    have at0 : (s.heap.push (emptySet w)).get? s.heap.objs.size = some (emptySet w) := Heap.get?_push_size _ rfl
    have ty0 : Shared.TypeIs { s with heap := s.heap.push (emptySet w) } (.ref s.heap.objs.size) "set" := ⟨_, at0, rfl⟩
    have g1 := F.called_set.init.lookup
    have g2 := F.called_set.init.bind (.ref s.heap.objs.size)
    repeat (any_goals (first | assumption | wp_step))
    refine codeAny_mono (codeAny_call_builtin (R := wants (fun r u => r = .none ∧ ∃ h' tk L es ep t, u = { s with heap := h', toks := tk } ∧ SetTR P w h' s.heap.objs.size L es ep t ∧ Got ks ks.length L ∧ (∀ b o, s.heap.get? b = some o → h'.get? b = some o)) E)
      F.called_set.init.plain F.entry_set_init (check_set_init_1 ty0 ?_)) fun r u hr => ?_
    · obtain ⟨⟨oc, od, oda, osl⟩, ho, hc, nl, hd⟩ := hl
      simp only at hc hd
      subst hc; subst hd
      have there : (s.heap.push (emptySet w)).get? l = some { cls := .type "tuple", dict := od, data := .seq items nl, slots := osl } := Heap.get?_push_of_some _ ho
      have k1 := F.sub_tuple_set
      have k2 := F.sub_tuple_frozenset
      have k3 : (Value.type "tuple" == Value.type "dict") = false := by decide
      have tl1 : (s.heap.push (emptySet w)).IsTuple l items := ⟨_, there, rfl, nl, rfl⟩
      unfold Builtin.«set.__init__» noKeywords Builtin.Frozenset.updateFrom
      generalize hPI : pyIter = PI
      wp_walk
      subst hPI
      refine wpAny_pyIter_tuple tl1 ?_
      refine wpAny_bind (wpAny_runValue ?_)
      have lt0 : l < s.heap.objs.size := Heap.lt_size ho
      have hh3 : A.in1.in1.in1.handled = none := by simp [hh]
      have sz : (s.heap.push (emptySet w)).objs.size = s.heap.objs.size + 1 := Heap.size_push ..
      have ne1 : l ≠ (s.heap.push (emptySet w)).objs.size := by rw [sz]; exact Nat.ne_of_lt (Nat.lt_succ_of_lt lt0)
      have apart : s.heap.objs.size ∉ [(s.heap.push (emptySet w)).objs.size, l] := by
        rw [sz]
        simp only [List.mem_cons, List.not_mem_nil, or_false, not_or]
        exact ⟨Nat.ne_of_lt (Nat.lt_succ_self _), Nat.ne_of_gt lt0⟩
      have vals : ∀ (i : Nat) (v : Value), items[i]? = some v → ∃ p, ks[i]? = some p ∧ v = .ref p.1 := fun i v hv => by
        have q : items.toList[i]? = some v := by rw [Array.getElem?_toList]; exact hv
        rw [hit, List.getElem?_map, Option.map_eq_some_iff] at q
        obtain ⟨p, e1, e2⟩ := q
        exact ⟨p, e1, e2.symm⟩
      refine set_update_tups ((Walks.tuple hh3 _ l ne1 items).toS) s.heap.objs.size apart ks cnt hfew vals s.heap hk (gone_behind (Nat.le_refl _)) (fun b hb => gone_behind (by rw [List.mem_singleton.mp hb, sz]; exact Nat.le_succ _)) hu (items.size - 0) 0 _ (by omega) (Nat.zero_le _)
        ⟨⟨_, Heap.get?_push_size _ rfl, rfl, rfl⟩, tl1.push _⟩ (fun b o e => Heap.get?_push_of_some _ (Heap.get?_push_of_some _ e)) ⟨[], #[], 0, _, setTR_fresh (Heap.get?_push_of_some _ at0), Got.zero ks⟩ ?_
      intro u L es ep t mv hS gt kp
      obtain ⟨h', g', d', tk', os'⟩ := u
      obtain rfl : g' = s.gens := mv.gens
      obtain rfl : d' = s.drawn := mv.drawn
      obtain rfl : os' = s.os := mv.os
      show wpAny _ _ _ _ _ _
      refine wpAny_pure ?_
      show wpAny _ _ (ret Value.none) _ _ _
      rw [cnt] at gt
      exact wpAny_pure ⟨rfl, h', tk', L, es, ep, t, rfl, hS, gt, kp⟩
    · rcases r with er | fl
      · exact hr
      cases fl with
      | next => exact hr.elim
      | brk => exact hr.elim
      | cont => exact hr.elim
      | ret r =>
        obtain ⟨rfl, h', tk, L, es, ep, t, rfl, hS, gt, kp⟩ := hr
        repeat (any_goals (first | assumption | wp_step))
        exact fin _ _ _ _ _ _ hS gt kp
end
end PuM
namespace PuM
open PySem PySem.Spec PyProof.Rows
open L2 (IsT SetTR Got collect_set)
section
variable {P : Program} {w : World} {A : Around} {E : Value → Shared → Prop} {s : Shared}
/-- sorted(set) of pairs of ints -/
theorem sorted_set_pairs {a : Addr} {L : List (Addr × List Int)} {es : Array (Int × Value)} {ep : Nat} {t : SetTable} {Q : Value → Shared → Prop} (R : SetTR P w s.heap a L es ep t) (hh : A.handled = none)
    (hB : ∀ p ∈ L, ∃ x y, p.2 = [x, y]) (k : Value → Int × Int) (hk : ∀ p ∈ L, p.2 = [(k (.ref p.1)).1, (k (.ref p.1)).2])
    (hQ : ∀ s' p (out : List Value) (c : Nat), (∀ b o, s.heap.get? b = some o → s'.heap.get? b = some o) → s'.gens = s.gens → s'.os = s.os → s.heap.objs.size ≤ p →
      s'.heap.get? p = some (seqObj "list" out.toArray c) → out.Perm (L.map fun q => Value.ref q.1) → SrtO.Srtd (fun v u => SrtO.lexB (k v) (k u)) out → Q (.ref p) s') :
    wpAny (model P w) A (call (.builtin "sorted") [.ref a]) Q E s := by
  obtain ⟨o, ho, hex, hd⟩ := R.ob
  have few := R.few
  refine Calls.call_function_entry kind_sorted plain_sorted entry_sorted (args_sorted1 _) ?_
  unfold Builtin.«sorted»
  refine wpAny_bind (m := checkCount "sorted" 1 1 _) (wpAny_pure ?_)
  refine wpAny_bind (collect_set (A := A.in1) hh ⟨o, ho, hex.1, hd⟩ R.fits (by have := R.size; unfold scanBound; omega) R.tab.ris R.led fun s1 vs k1 hz g1 o1 pm => ?_)
  have rows : es.toList.map (·.2) = L.map fun q => Value.ref q.1 := by
    rw [R.rows]
    simp only [L2.rowsOf, List.map_map]
    rfl
  rw [rows] at pm
  have nvs : vs.length ≤ sizeLine := by rw [pm.length_eq, List.length_map, sizeLine_eq]; omega
  refine wpAny_bind (wpAny_newList ?_ (by first | exact nvs | (rw [sizeLine_eq]; rw [sizeLine_eq] at nvs; exact nvs)))
  have at1 : (s1.heap.push (seqObj "list" vs.toArray 0)).get? s1.heap.objs.size = some (seqObj "list" vs.toArray 0) := Heap.get?_push_size _ rfl
  have pairs : ∀ v ∈ vs, Srt.IsPair (s1.heap.push (seqObj "list" vs.toArray 0)) v (k v).1 (k v).2 := fun v hv => by
    obtain ⟨q, hq, rfl⟩ := List.mem_map.mp (pm.mem_iff.mp hv)
    obtain ⟨oq, its, n, h1, h2, h3, h4⟩ := R.tup q hq
    rw [hk q hq] at h4
    generalize hl : its.toList = l4 at h4
    cases h4 with
    | cons x0 r0 =>
      cases r0 with
      | cons x1 r1 =>
        cases r1
        obtain ⟨t0, e0⟩ := Value.isInt_shape x0
        obtain ⟨t1, e1⟩ := Value.isInt_shape x1
        subst e0; subst e1
        have ei : its = #[.int (k (.ref q.1)).1 t0, .int (k (.ref q.1)).2 t1] := by
          apply Array.ext'
          rw [hl]
        subst ei
        exact ⟨q.1, oq, t0, t1, n, rfl, Heap.get?_push_of_some _ (k1 _ _ h1), h2, h3⟩
  refine wpAny_bind (wpAny_holding (wpAny_call_entry slot_list_sort ⟨_, at1, rfl⟩ entry_list_sort (SrtO.list_sort_ord (ltv := fun v u => SrtO.lexB (k v) (k u)) (SrtO.swo_lex k) at1 nvs (fun h2 => SrtO.pairs_sortableO (s := { s1 with heap := s1.heap.push (seqObj "list" vs.toArray 0) }) (by omega) pairs fun o e => ?_) fun out hs hb => ⟨_, rfl, ?_⟩) (args_list_sort _)))
  · have e' : some o = some (seqObj "list" vs.toArray 0) := e.symm.trans at1
    cases e'
    intro c
    exact absurd (Value.type.inj c) (by decide)
  · obtain ⟨c, hc⟩ := sortedHeap_at (vs := vs) (out := out.toArray) at1
    refine wpAny_pure ⟨_, rfl, hQ _ s1.heap.objs.size out c (fun b u e => ?_) g1 o1 hz hc (hb.perm.trans pm) hs⟩
    have q := k1 b u e
    have lt1 := Heap.lt_size q
    show (sortedHeap (s1.heap.push (seqObj "list" vs.toArray 0)) s1.heap.objs.size vs out.toArray).get? b = some u
    rw [sortedHeap_old (Nat.ne_of_lt lt1) (by rw [size_push']; exact Nat.lt_succ_of_lt lt1)]
    exact Heap.get?_push_of_some _ q
end
end PuM
namespace Pu
open PySem PySem.Spec L2
open PyProof.Rows hiding St

/-! ## data -/
inductive D where
  | non | bl (b : Bool) | int (i : Int) | str (x : Str)
  | tup (ds : List D) | lst (ds : List D)
  | dct (ks : List (List Key × D)) | dck (ks : List (Key × D))
  | ins (c : String) (fs : List (Str × D))
  | fn (f : String)
  | scr (ns : List Int)
  /-- an empty tuple that is known to have no dict of its own -/
  | tp0

/-- without a dict of its own -/
structure NoDct (o : Obj) : Prop where
  n : o.dict = none
  c : o.cls = .type "tuple"
/-- pairs with a cell in front: a tuple of such data has no dict of its own -/
def evD : D → Bool
  | .tup [.tup [.int _, .int _], _] => true
  | _ => false
def evish (ds : List D) : Bool := !ds.isEmpty && ds.all evD
/-- where the classes and the defs stand -/
structure Tx where
  cls : String → Addr
  fn : String → Addr
  /-- the exception that is being handled, its dict -/
  hx : Addr
  hxd : Option Addr
  /-- the script, where the top's own text holds it -/
  sc : Addr → List Int → Prop
def Tx.at (T : Tx) (a : Addr) (d : Option Addr) : Tx := { T with hx := a, hxd := d }

mutual
inductive Rep (T : Tx) (F : Addr → Prop) (H : Hp) : D → V → Prop
  | non : Rep T F H .non .non
  | bl (b : Bool) : Rep T F H (.bl b) (.bl b)
  | int (i : Int) : Rep T F H (.int i) (.int i)
  | str (x : Str) : Rep T F H (.str x) (.str x)
  | tup {a : Addr} {ds : List D} {xs : List V} : evish ds = false → H a = some (.tup xs) → RepL T F H ds xs → Rep T F H (.tup ds) (.ref a)
  | tpl {a : Addr} {ds : List D} {xs : List V} {o : Obj} : evish ds = true → F a → H a = some (.frz o (.tup xs)) → NoDct o → RepL T F H ds xs → Rep T F H (.tup ds) (.ref a)
  | lst {a : Addr} {ds : List D} {xs : List V} : F a → H a = some (.lst xs) → RepL T F H ds xs → Rep T F H (.lst ds) (.ref a)
  | scr {a : Addr} {ns : List Int} : (F a ∧ ∃ o, H a = some (.frz o (.lst (ns.map V.int)))) ∨ T.sc a ns → Rep T F H (.scr ns) (.ref a)
  | dct {a : Addr} {ds : List (List Key × D)} {xs : List (List Key × V)} : F a → Rd H a (.dT xs) → RepT T F H ds xs → Rep T F H (.dct ds) (.ref a)
  | dck {a : Addr} {ds : List (Key × D)} {xs : List (Key × V)} : F a → Rd H a (.dK xs) → RepK T F H ds xs → Rep T F H (.dck ds) (.ref a)
  | ins {a dx : Addr} {c : String} {ds : List (Str × D)} {xs : List (Str × V)} : F a → H a = some (.ins (T.cls c) dx xs) → RepF T F H ds xs → Rep T F H (.ins c ds) (.ref a)
  | fn (f : String) : Rep T F H (.fn f) (.ref (T.fn f))
  | tp0 {a : Addr} {o : Obj} : F a → H a = some (.frz o (.tup [])) → NoDct o → Rep T F H .tp0 (.ref a)
inductive RepL (T : Tx) (F : Addr → Prop) (H : Hp) : List D → List V → Prop
  | nil : RepL T F H [] []
  | cons {d : D} {ds : List D} {x : V} {xs : List V} : Rep T F H d x → RepL T F H ds xs → RepL T F H (d :: ds) (x :: xs)
inductive RepT (T : Tx) (F : Addr → Prop) (H : Hp) : List (List Key × D) → List (List Key × V) → Prop
  | nil : RepT T F H [] []
  | cons {k : List Key} {d : D} {ds : List (List Key × D)} {x : V} {xs : List (List Key × V)} : Rep T F H d x → RepT T F H ds xs → RepT T F H ((k, d) :: ds) ((k, x) :: xs)
inductive RepK (T : Tx) (F : Addr → Prop) (H : Hp) : List (Key × D) → List (Key × V) → Prop
  | nil : RepK T F H [] []
  | cons {k : Key} {d : D} {ds : List (Key × D)} {x : V} {xs : List (Key × V)} : Rep T F H d x → RepK T F H ds xs → RepK T F H ((k, d) :: ds) ((k, x) :: xs)
inductive RepF (T : Tx) (F : Addr → Prop) (H : Hp) : List (Str × D) → List (Str × V) → Prop
  | nil : RepF T F H [] []
  | cons {k : Str} {d : D} {ds : List (Str × D)} {x : V} {xs : List (Str × V)} : Rep T F H d x → RepF T F H ds xs → RepF T F H ((k, d) :: ds) ((k, x) :: xs)
end

/-- what may be locked -/
def lockable : HO → Prop
  | .dT _ => True
  | .dK _ => True
  | _ => False
def nfz : HO → Prop
  | .frz _ _ => False
  | _ => True
def isx : HO → Prop
  | .tup _ => True
  | .lst _ => True
  | .ins _ _ _ => True
  | .xd _ => True
  | .frz _ (.lst _) => True
  | .frz _ (.tup _) => True
  | _ => False

/-- the frozen part is kept -/
structure Kp (F : Addr → Prop) (H H' : Hp) : Prop where
  r : ∀ a u, F a → nfz u → Rd H a u → Rd H' a u
  x : ∀ a u, F a → isx u → H a = some u → H' a = some u
  t : ∀ a xs, H a = some (.tup xs) → H' a = some (.tup xs)
structure Tx.Eq (T T' : Tx) : Prop where
  c : T.cls = T'.cls
  f : T.fn = T'.fn
  s : T.sc = T'.sc
theorem Kp.refl {F : Addr → Prop} {H : Hp} : Kp F H H := ⟨fun _ _ _ _ h => h, fun _ _ _ _ h => h, fun _ _ h => h⟩
theorem Kp.trans {F F' : Addr → Prop} {H H1 H2 : Hp} (k : Kp F H H1) (hf : ∀ a, F a → F' a) (k' : Kp F' H1 H2) : Kp F H H2 :=
  ⟨fun a u f n h => k'.r a u (hf a f) n (k.r a u f n h), fun a u f n h => k'.x a u (hf a f) n (k.x a u f n h), fun a xs h => k'.t a xs (k.t a xs h)⟩
theorem Kp.of_eq {F : Addr → Prop} {H H' : Hp} (h : ∀ a o, F a → H a = some o → H' a = some o) (ht : ∀ a xs, H a = some (.tup xs) → H' a = some (.tup xs)) : Kp F H H' := by
  refine ⟨fun a u f n r => ?_, fun a u f n e => h a u f e, ht⟩
  rcases r with r | ⟨o, r⟩
  · exact .inl (h a _ f r)
  · exact .inr ⟨o, h a _ f r⟩

mutual
theorem Rep.mono {T : Tx} {F F' : Addr → Prop} {H H' : Hp} (hf : ∀ a, F a → F' a) (k : Kp F H H') : ∀ {d : D} {v : V}, Rep T F H d v → Rep T F' H' d v
  | _, _, .non => .non
  | _, _, .bl b => .bl b
  | _, _, .int i => .int i
  | _, _, .str x => .str x
  | _, _, .tup h1 h2 h3 => .tup h1 (k.t _ _ h2) (RepL.mono hf k h3)
  | _, _, .tpl h0 h1 h2 h3 h4 => .tpl h0 (hf _ h1) (k.x _ _ h1 trivial h2) h3 (RepL.mono hf k h4)
  | _, _, .lst h1 h2 h3 => .lst (hf _ h1) (k.x _ _ h1 trivial h2) (RepL.mono hf k h3)
  | _, _, .scr h => .scr (h.imp (fun ⟨h1, o, h2⟩ => ⟨hf _ h1, o, k.x _ _ h1 trivial h2⟩) fun h => h)
  | _, _, .dct h1 h2 h3 => .dct (hf _ h1) (k.r _ _ h1 trivial h2) (RepT.mono hf k h3)
  | _, _, .dck h1 h2 h3 => .dck (hf _ h1) (k.r _ _ h1 trivial h2) (RepK.mono hf k h3)
  | _, _, .ins h1 h2 h3 => .ins (hf _ h1) (k.x _ _ h1 trivial h2) (RepF.mono hf k h3)
  | _, _, .fn f => .fn f
  | _, _, .tp0 h1 h2 h3 => .tp0 (hf _ h1) (k.x _ _ h1 trivial h2) h3
theorem RepL.mono {T : Tx} {F F' : Addr → Prop} {H H' : Hp} (hf : ∀ a, F a → F' a) (k : Kp F H H') : ∀ {d : List D} {v : List V}, RepL T F H d v → RepL T F' H' d v
  | _, _, .nil => .nil
  | _, _, .cons h1 h2 => .cons (Rep.mono hf k h1) (RepL.mono hf k h2)
theorem RepT.mono {T : Tx} {F F' : Addr → Prop} {H H' : Hp} (hf : ∀ a, F a → F' a) (k : Kp F H H') : ∀ {d : List (List Key × D)} {v : List (List Key × V)}, RepT T F H d v → RepT T F' H' d v
  | _, _, .nil => .nil
  | _, _, .cons h1 h2 => .cons (Rep.mono hf k h1) (RepT.mono hf k h2)
theorem RepK.mono {T : Tx} {F F' : Addr → Prop} {H H' : Hp} (hf : ∀ a, F a → F' a) (k : Kp F H H') : ∀ {d : List (Key × D)} {v : List (Key × V)}, RepK T F H d v → RepK T F' H' d v
  | _, _, .nil => .nil
  | _, _, .cons h1 h2 => .cons (Rep.mono hf k h1) (RepK.mono hf k h2)
theorem RepF.mono {T : Tx} {F F' : Addr → Prop} {H H' : Hp} (hf : ∀ a, F a → F' a) (k : Kp F H H') : ∀ {d : List (Str × D)} {v : List (Str × V)}, RepF T F H d v → RepF T F' H' d v
  | _, _, .nil => .nil
  | _, _, .cons h1 h2 => .cons (Rep.mono hf k h1) (RepF.mono hf k h2)
end

mutual
theorem Rep.tx {T T' : Tx} {F : Addr → Prop} {H : Hp} (t : Tx.Eq T T') : ∀ {d : D} {v : V}, Rep T F H d v → Rep T' F H d v
  | _, _, .non => .non
  | _, _, .bl b => .bl b
  | _, _, .int i => .int i
  | _, _, .str x => .str x
  | _, _, .tup h1 h2 h3 => .tup h1 h2 (RepL.tx t h3)
  | _, _, .tpl h0 h1 h2 h3 h4 => .tpl h0 h1 h2 h3 (RepL.tx t h4)
  | _, _, .lst h1 h2 h3 => .lst h1 h2 (RepL.tx t h3)
  | _, _, .scr h => .scr (h.imp (fun h => h) fun h => by rw [← t.s]; exact h)
  | _, _, .dct h1 h2 h3 => .dct h1 h2 (RepT.tx t h3)
  | _, _, .dck h1 h2 h3 => .dck h1 h2 (RepK.tx t h3)
  | _, _, .ins h1 h2 h3 => .ins h1 (by rw [← t.c]; exact h2) (RepF.tx t h3)
  | _, _, .fn f => by rw [t.f]; exact .fn f
  | _, _, .tp0 h1 h2 h3 => .tp0 h1 h2 h3
theorem RepL.tx {T T' : Tx} {F : Addr → Prop} {H : Hp} (t : Tx.Eq T T') : ∀ {d : List D} {v : List V}, RepL T F H d v → RepL T' F H d v
  | _, _, .nil => .nil
  | _, _, .cons h1 h2 => .cons (Rep.tx t h1) (RepL.tx t h2)
theorem RepT.tx {T T' : Tx} {F : Addr → Prop} {H : Hp} (t : Tx.Eq T T') : ∀ {d : List (List Key × D)} {v : List (List Key × V)}, RepT T F H d v → RepT T' F H d v
  | _, _, .nil => .nil
  | _, _, .cons h1 h2 => .cons (Rep.tx t h1) (RepT.tx t h2)
theorem RepK.tx {T T' : Tx} {F : Addr → Prop} {H : Hp} (t : Tx.Eq T T') : ∀ {d : List (Key × D)} {v : List (Key × V)}, RepK T F H d v → RepK T' F H d v
  | _, _, .nil => .nil
  | _, _, .cons h1 h2 => .cons (Rep.tx t h1) (RepK.tx t h2)
theorem RepF.tx {T T' : Tx} {F : Addr → Prop} {H : Hp} (t : Tx.Eq T T') : ∀ {d : List (Str × D)} {v : List (Str × V)}, RepF T F H d v → RepF T' F H d v
  | _, _, .nil => .nil
  | _, _, .cons h1 h2 => .cons (Rep.tx t h1) (RepF.tx t h2)
end

section
variable {T : Tx} {F : Addr → Prop} {H : Hp}
theorem RepL.length : ∀ {ds : List D} {xs : List V}, RepL T F H ds xs → ds.length = xs.length
  | _, _, .nil => rfl
  | _, _, .cons _ h => by rw [List.length_cons, List.length_cons, RepL.length h]
theorem RepT.length : ∀ {ds : List (List Key × D)} {xs : List (List Key × V)}, RepT T F H ds xs → ds.length = xs.length
  | _, _, .nil => rfl
  | _, _, .cons _ h => by rw [List.length_cons, List.length_cons, RepT.length h]
theorem RepK.length : ∀ {ds : List (Key × D)} {xs : List (Key × V)}, RepK T F H ds xs → ds.length = xs.length
  | _, _, .nil => rfl
  | _, _, .cons _ h => by rw [List.length_cons, List.length_cons, RepK.length h]
theorem RepL.get : ∀ {ds : List D} {xs : List V} {i : Nat} {d : D}, RepL T F H ds xs → ds[i]? = some d → ∃ x, xs[i]? = some x ∧ Rep T F H d x
  | _, _, i, d, .nil, e => by simp at e
  | _, _, 0, d, .cons h _, e => by simp at e; subst e; exact ⟨_, rfl, h⟩
  | _, _, i + 1, d, .cons _ h, e => by
    obtain ⟨x, h1, h2⟩ := RepL.get (i := i) (d := d) h (by simpa using e)
    exact ⟨x, by simpa using h1, h2⟩
theorem RepL.getV : ∀ {ds : List D} {xs : List V} {i : Nat} {x : V}, RepL T F H ds xs → xs[i]? = some x → ∃ d, ds[i]? = some d ∧ Rep T F H d x
  | _, _, i, d, .nil, e => by simp at e
  | _, _, 0, d, .cons h _, e => by simp at e; subst e; exact ⟨_, rfl, h⟩
  | _, _, i + 1, d, .cons _ h, e => by
    obtain ⟨x, h1, h2⟩ := RepL.getV (i := i) h (by simpa using e)
    exact ⟨x, by simpa using h1, h2⟩
theorem RepL.append : ∀ {ds es : List D} {xs ys : List V}, RepL T F H ds xs → RepL T F H es ys → RepL T F H (ds ++ es) (xs ++ ys)
  | _, _, _, _, .nil, h => h
  | _, _, _, _, .cons h1 h2, h => .cons h1 (RepL.append h2 h)
theorem RepL.set : ∀ {ds : List D} {xs : List V} {d : D} {x : V} (i : Nat), RepL T F H ds xs → Rep T F H d x → RepL T F H (ds.set i d) (xs.set i x)
  | _, _, _, _, _, .nil, _ => .nil
  | _, _, _, _, 0, .cons _ h2, h => .cons h h2
  | _, _, _, _, i + 1, .cons h1 h2, h => .cons h1 (RepL.set i h2 h)
theorem RepL.take : ∀ {ds : List D} {xs : List V} (n : Nat), RepL T F H ds xs → RepL T F H (ds.take n) (xs.take n)
  | _, _, 0, _ => .nil
  | _, _, _ + 1, .nil => .nil
  | _, _, n + 1, .cons h1 h2 => .cons h1 (RepL.take n h2)
theorem RepL.drop : ∀ {ds : List D} {xs : List V} (n : Nat), RepL T F H ds xs → RepL T F H (ds.drop n) (xs.drop n)
  | _, _, 0, h => h
  | _, _, _ + 1, .nil => .nil
  | _, _, n + 1, .cons _ h2 => RepL.drop n h2
theorem RepL.snoc {ds : List D} {xs : List V} {d : D} {x : V} (h : RepL T F H ds xs) (h1 : Rep T F H d x) : RepL T F H (ds ++ [d]) (xs ++ [x]) := h.append (.cons h1 .nil)
theorem RepL.reverse : ∀ {ds : List D} {xs : List V}, RepL T F H ds xs → RepL T F H ds.reverse xs.reverse
  | _, _, .nil => .nil
  | _, _, .cons h1 h2 => by rw [List.reverse_cons, List.reverse_cons]; exact (RepL.reverse h2).snoc h1
theorem RepL.flat {ds : List D} {xs : List V} (h : RepL T F H ds xs) : ∀ k : Nat, RepL T F H (List.replicate k ds).flatten (List.replicate k xs).flatten
  | 0 => .nil
  | k + 1 => by rw [List.replicate_succ, List.replicate_succ, List.flatten_cons, List.flatten_cons]; exact h.append (RepL.flat h k)
theorem RepL.ints : ∀ {ns : List Int} {xs : List V}, RepL T F H (ns.map D.int) xs → xs = ns.map V.int
  | [], _, .nil => rfl
  | n :: ns, _, .cons h1 h2 => by cases h1; rw [List.map_cons, RepL.ints h2]
theorem RepL.of_ints : ∀ {ns : List Int}, RepL T F H (ns.map D.int) (ns.map V.int)
  | [] => .nil
  | n :: ns => .cons (.int n) RepL.of_ints
theorem RepL.strs : ∀ {ns : List Str} {xs : List V}, RepL T F H (ns.map D.str) xs → xs = ns.map V.str
  | [], _, .nil => rfl
  | n :: ns, _, .cons h1 h2 => by cases h1; rw [List.map_cons, RepL.strs h2]
theorem RepL.bls : ∀ {ns : List Bool} {xs : List V}, RepL T F H (ns.map D.bl) xs → xs = ns.map V.bl
  | [], _, .nil => rfl
  | n :: ns, _, .cons h1 h2 => by cases h1; rw [List.map_cons, RepL.bls h2]
end

/-! ## slots, environments, the state -/
inductive Sl where
  | no | val (d : D) | own (d : D) | io (d : D) | hd (fs : List (Str × D))
abbrev En := List Sl
def Sl.rooted : Sl → Bool
  | .own _ => true
  | .io _ => true
  | _ => false

/-- what is fixed in a run of a body: the frozen part and the heap at the entry, the objects handed in to be changed, the locked ones -/
structure G where
  F0 : Addr → Prop
  H0 : Hp
  W : Nat → Addr → Prop
  L : Addr → Prop
  Z : Addr → Prop

/-- what stands at a root -/
inductive Con (T : Tx) (F : Addr → Prop) (H : Hp) (a : Addr) : D → Prop
  | lst {ds : List D} {xs : List V} : H a = some (.lst xs) → RepL T F H ds xs → Con T F H a (.lst ds)
  | dct {ds : List (List Key × D)} {xs : List (List Key × V)} : H a = some (.dT xs) → RepT T F H ds xs → Con T F H a (.dct ds)
  | dck {ds : List (Key × D)} {xs : List (Key × V)} : H a = some (.dK xs) → RepK T F H ds xs → Con T F H a (.dck ds)
  | ins {c : String} {dx : Addr} {ds : List (Str × D)} {xs : List (Str × V)} : H a = some (.ins (T.cls c) dx xs) → RepF T F H ds xs → Con T F H a (.ins c ds)
theorem Con.there {T : Tx} {F : Addr → Prop} {H : Hp} {a : Addr} {d : D} (c : Con T F H a d) : ∃ o, H a = some o ∧ nfz o := by
  cases c with
  | lst h _ => exact ⟨_, h, trivial⟩
  | dct h _ => exact ⟨_, h, trivial⟩
  | dck h _ => exact ⟨_, h, trivial⟩
  | ins h _ => exact ⟨_, h, trivial⟩
theorem Con.nt {T : Tx} {F : Addr → Prop} {H : Hp} {a : Addr} {d : D} (c : Con T F H a d) : ∀ xs, H a ≠ some (.tup xs) := fun xs e => by
  cases c with
  | lst h _ => rw [h] at e; cases e
  | dct h _ => rw [h] at e; cases e
  | dck h _ => rw [h] at e; cases e
  | ins h _ => rw [h] at e; cases e
theorem Con.mono {T : Tx} {F F' : Addr → Prop} {H H' : Hp} {a : Addr} {d : D} (c : Con T F H a d) (hf : ∀ a, F a → F' a) (k : Kp F H H') (ha : ∀ o, H a = some o → H' a = some o) : Con T F' H' a d := by
  cases c with
  | lst h r => exact .lst (ha _ h) (r.mono hf k)
  | dct h r => exact .dct (ha _ h) (r.mono hf k)
  | dck h r => exact .dck (ha _ h) (r.mono hf k)
  | ins h r => exact .ins (ha _ h) (r.mono hf k)
theorem Con.rep {T : Tx} {F : Addr → Prop} {H : Hp} {a : Addr} {d : D} (c : Con T F H a d) (f : F a) : Rep T F H d (.ref a) := by
  cases c with
  | lst h r => exact .lst f h r
  | dct h r => exact .dct f (.inl h) r
  | dck h r => exact .dck f (.inl h) r
  | ins h r => exact .ins f h r

theorem Con.tx {T T' : Tx} {F : Addr → Prop} {H : Hp} {a : Addr} {d : D} (t : Tx.Eq T T') (c : Con T F H a d) : Con T' F H a d := by
  cases c with
  | lst h r => exact .lst h (r.tx t)
  | dct h r => exact .dct h (r.tx t)
  | dck h r => exact .dck h (r.tx t)
  | ins h r => exact .ins (by rw [← t.c]; exact h) (r.tx t)
/-- an exception's own dict -/
def XR (T : Tx) (F : Addr → Prop) (H : Hp) (fs : List (Str × D)) (dd : Option Addr) : Prop :=
  (fs = [] ∧ dd = none) ∨ (fs ≠ [] ∧ ∃ d xs, dd = some d ∧ F d ∧ H d = some (.xd xs) ∧ RepF T F H fs xs)
theorem XR.mono {T : Tx} {F F' : Addr → Prop} {H H' : Hp} {fs : List (Str × D)} {dd : Option Addr} (r : XR T F H fs dd) (hf : ∀ a, F a → F' a) (k : Kp F H H') : XR T F' H' fs dd := by
  rcases r with r | ⟨n, d, xs, h1, h2, h3, h4⟩
  · exact .inl r
  · exact .inr ⟨n, d, xs, h1, hf _ h2, k.x _ _ h2 trivial h3, h4.mono hf k⟩
/-- a slot holds what its sign says -/
inductive SlR (T : Tx) (g : G) (F : Addr → Prop) (H : Hp) (i : Nat) (v : Option V) : Sl → Prop
  | no : SlR T g F H i v .no
  | hd {fs : List (Str × D)} : v = some (.ref T.hx) → XR T F H fs T.hxd → SlR T g F H i v (.hd fs)
  | val {d : D} {x : V} : v = some x → Rep T F H d x → SlR T g F H i v (.val d)
  | own {d : D} {a : Addr} : v = some (.ref a) → ¬ F a → ¬ g.L a → g.H0 a = none → Con T F H a d → SlR T g F H i v (.own d)
  | io {d : D} {a : Addr} : v = some (.ref a) → ¬ F a → ¬ g.L a → g.W i a → Con T F H a d → SlR T g F H i v (.io d)
def look (σ : St) (i : Nat) : Option V := (σ[i]?).getD none

structure St8 (T : Tx) (g : G) (F : Addr → Prop) (H : Hp) (σ : St) (env : En) : Prop where
  len : env.length = σ.length
  sl : ∀ i s, env[i]? = some s → SlR T g F H i (look σ i) s
  dis : ∀ i j s s' a, i ≠ j → env[i]? = some s → env[j]? = some s' → s.rooted = true → s'.rooted = true → look σ i = some (.ref a) → look σ j ≠ some (.ref a)
  fdom : ∀ a, F a → ∃ o, H a = some o
  fnew : ∀ a, F a → g.F0 a ∨ g.H0 a = none
  ldom : ∀ a, g.L a → ∃ o, H a = some o
  wdom : ∀ i a, g.W i a → ∃ o, H a = some o
  zdom : ∀ a, g.Z a → ∃ o, H a = some o
  keep : ∀ a o, g.H0 a = some o → (∀ i, ¬ g.W i a) → ¬ g.Z a → H a = some o

def noHd (env : En) : Bool := env.all fun s => match s with
  | .hd _ => false
  | _ => true
theorem St8.tx {T T' : Tx} {g : G} {F : Addr → Prop} {H : Hp} {σ : St} {env : En} (t : Tx.Eq T T') (S : St8 T g F H σ env) (hn : noHd env = true) : St8 T' g F H σ env := by
  refine ⟨S.len, fun i s e => ?_, S.dis, S.fdom, S.fnew, S.ldom, S.wdom, S.zdom, S.keep⟩
  cases S.sl i s e with
  | no => exact .no
  | hd h =>
    have := (List.all_eq_true.mp hn) _ (List.mem_of_getElem? e)
    cases this
  | val h1 h2 => exact .val h1 (h2.tx t)
  | own h f l w c => exact .own h f l w (c.tx t)
  | io h f l w c => exact .io h f l w (c.tx t)

structure Ext (g : G) (F : Addr → Prop) (H : Hp) (F' : Addr → Prop) (H' : Hp) : Prop where
  f : ∀ a, F a → F' a
  l : ∀ a, g.L a → F' a → F a
  k : Kp F H H'
  lk : ∀ a o, g.L a → H a = some o → H' a = some o
theorem Ext.refl {g : G} {F : Addr → Prop} {H : Hp} : Ext g F H F H := ⟨fun _ h => h, fun _ _ h => h, .refl, fun _ _ _ h => h⟩
theorem Ext.trans {g : G} {F F1 F2 : Addr → Prop} {H H1 H2 : Hp} (a : Ext g F H F1 H1) (b : Ext g F1 H1 F2 H2) : Ext g F H F2 H2 :=
  ⟨fun x h => b.f x (a.f x h), fun x hl h => a.l x hl (b.l x hl h), a.k.trans a.f b.k, fun x o hl h => b.lk x o hl (a.lk x o hl h)⟩
theorem Rep.ext {T : Tx} {g : G} {F F' : Addr → Prop} {H H' : Hp} {d : D} {v : V} (r : Rep T F H d v) (e : Ext g F H F' H') : Rep T F' H' d v := r.mono e.f e.k

/-- a free address is nobody's -/
theorem St8.free {T : Tx} {g : G} {F : Addr → Prop} {H : Hp} {σ : St} {env : En} (S : St8 T g F H σ env) {p : Addr} (hp : H p = none) : ¬ F p ∧ ¬ g.L p ∧ g.H0 p = none ∧ (∀ i, ¬ g.W i p) ∧ ¬ g.Z p := by
  have nw : ∀ i, ¬ g.W i p := fun i h => by obtain ⟨o, e⟩ := S.wdom i p h; rw [hp] at e; cases e
  have nz : ¬ g.Z p := fun h => by obtain ⟨o, e⟩ := S.zdom p h; rw [hp] at e; cases e
  refine ⟨fun h => ?_, fun h => ?_, ?_, nw, nz⟩
  · obtain ⟨o, e⟩ := S.fdom p h; rw [hp] at e; cases e
  · obtain ⟨o, e⟩ := S.ldom p h; rw [hp] at e; cases e
  · cases e : g.H0 p with
    | none => rfl
    | some o => have := S.keep p o e nw nz; rw [hp] at this; cases this

/-- a root in the environment -/
def Roots (σ : St) (env : En) (a : Addr) : Prop := ∃ i s, env[i]? = some s ∧ s.rooted = true ∧ look σ i = some (.ref a)
theorem SlR.root {T : Tx} {g : G} {F : Addr → Prop} {H : Hp} {i : Nat} {v : Option V} {s : Sl} (r : SlR T g F H i v s) (hs : s.rooted = true) : ∃ a d, v = some (.ref a) ∧ ¬ F a ∧ Con T F H a d ∧ ¬ g.L a ∧ (g.H0 a = none ∨ g.W i a) := by
  cases r with
  | no => cases hs
  | hd _ => cases hs
  | val _ _ => cases hs
  | own e f l w c => exact ⟨_, _, e, f, c, l, .inl w⟩
  | io e f l w c => exact ⟨_, _, e, f, c, l, .inr w⟩
theorem St8.roots {T : Tx} {g : G} {F : Addr → Prop} {H : Hp} {σ : St} {env : En} (S : St8 T g F H σ env) {a : Addr} (r : Roots σ env a) : ¬ F a ∧ ∃ o, H a = some o := by
  obtain ⟨i, s, e, hs, l⟩ := r
  obtain ⟨b, d, h1, h2, h3, _⟩ := (S.sl i s e).root hs
  rw [l] at h1
  cases h1
  obtain ⟨o, q, _⟩ := h3.there
  exact ⟨h2, o, q⟩

/-- the state behind a growth: all that the environment's slots lean on is kept -/
theorem SlR.grow {T : Tx} {g : G} {F F' : Addr → Prop} {H H' : Hp} {i : Nat} {v : Option V} {s : Sl} (r : SlR T g F H i v s) (hf : ∀ a, F a → F' a) (k : Kp F H H')
    (hr : ∀ a, v = some (.ref a) → s.rooted = true → ¬ F' a ∧ ∀ o, H a = some o → H' a = some o) : SlR T g F' H' i v s := by
  cases r with
  | no => exact .no
  | hd e r => exact .hd e (r.mono hf k)
  | val e r => exact .val e (r.mono hf k)
  | own e f l w c => obtain ⟨h1, h2⟩ := hr _ e rfl; exact .own e h1 l w (c.mono hf k h2)
  | io e f l w c => obtain ⟨h1, h2⟩ := hr _ e rfl; exact .io e h1 l w (c.mono hf k h2)

/-- a new object is laid at p; it may be frozen at once -/
theorem St8.laid {T : Tx} {g : G} {F : Addr → Prop} {H : Hp} {σ : St} {env : En} (S : St8 T g F H σ env) {p : Addr} (hp : H p = none) (o : HO) {F' : Addr → Prop} (hF : ∀ a, F a → F' a) (hF' : ∀ a, F' a → F a ∨ a = p) :
    St8 T g F' (upd H p o) σ env ∧ Ext g F H F' (upd H p o) := by
  obtain ⟨n1, n2, n3, n4, n5⟩ := S.free hp
  have ne : ∀ a u, H a = some u → a ≠ p := fun a u e z => by rw [z, hp] at e; cases e
  have kk : ∀ a u, H a = some u → upd H p o a = some u := fun a u e => by rw [upd_ne (ne a u e)]; exact e
  have K : Kp F H (upd H p o) := .of_eq (fun a u _ e => kk a u e) fun a xs e => kk a _ e
  have E : ∀ a, (∃ u, H a = some u) → ∃ u, upd H p o a = some u := fun a ⟨u, e⟩ => ⟨u, kk a u e⟩
  refine ⟨⟨S.len, fun i s e => ?_, S.dis, fun a h => ?_, fun a h => ?_, fun a h => E a (S.ldom a h), fun i a h => E a (S.wdom i a h), fun a h => E a (S.zdom a h), fun a u h w z => kk a u (S.keep a u h w z)⟩, ⟨hF, fun a hl h => ?_, K, fun a u _ e => kk a u e⟩⟩
  · refine (S.sl i s e).grow hF K fun a ea hs => ?_
    obtain ⟨h1, u, h2⟩ := S.roots ⟨i, s, e, hs, ea⟩
    refine ⟨fun h => ?_, fun u e => kk a u e⟩
    rcases hF' a h with z | z
    · exact h1 z
    · rw [z, hp] at h2; cases h2
  · rcases hF' a h with z | z
    · exact E a (S.fdom a z)
    · rw [z]; exact ⟨o, upd_same⟩
  · rcases hF' a h with z | z
    · exact S.fnew a z
    · rw [z]; exact .inr n3
  · rcases hF' a h with z | z
    · exact z
    · rw [z] at hl; exact absurd hl n2
/-- frozen at once -/
theorem St8.frozen {T : Tx} {g : G} {F : Addr → Prop} {H : Hp} {σ : St} {env : En} (S : St8 T g F H σ env) {p : Addr} (hp : H p = none) (o : HO) : St8 T g (fun a => F a ∨ a = p) (upd H p o) σ env ∧ Ext g F H (fun a => F a ∨ a = p) (upd H p o) :=
  S.laid hp o (fun _ h => .inl h) (fun _ h => h)
/-- not frozen -/
theorem St8.loose {T : Tx} {g : G} {F : Addr → Prop} {H : Hp} {σ : St} {env : En} (S : St8 T g F H σ env) {p : Addr} (hp : H p = none) (o : HO) : St8 T g F (upd H p o) σ env ∧ Ext g F H F (upd H p o) :=
  S.laid hp o (fun _ h => h) (fun _ h => .inl h)
/-- a loose root is frozen -/
theorem St8.freeze {T : Tx} {g : G} {F : Addr → Prop} {H : Hp} {σ : St} {env : En} (S : St8 T g F H σ env) {a : Addr} (ha : ∃ o, H a = some o) (h0 : g.H0 a = none) (hl : ¬ g.L a) (hr : ¬ Roots σ env a) : St8 T g (fun b => F b ∨ b = a) H σ env ∧ Ext g F H (fun b => F b ∨ b = a) H := by
  refine ⟨⟨S.len, fun i s e => ?_, S.dis, fun b h => ?_, fun b h => ?_, S.ldom, S.wdom, S.zdom, S.keep⟩, ⟨fun _ h => .inl h, fun b hb h => ?_, .refl, fun _ _ _ h => h⟩⟩
  · refine (S.sl i s e).grow (fun _ h => .inl h) .refl fun b eb hs => ⟨fun h => ?_, fun _ h => h⟩
    rcases h with h | h
    · exact (S.roots ⟨i, s, e, hs, eb⟩).1 h
    · rw [h] at eb; exact hr ⟨i, s, e, hs, eb⟩
  · rcases h with h | h
    · exact S.fdom b h
    · rw [h]; exact ha
  · rcases h with h | h
    · exact S.fnew b h
    · rw [h]; exact .inr h0
  · rcases h with h | h
    · exact h
    · rw [h] at hb; exact absurd hb hl

theorem look_set {σ : St} {i j : Nat} {v : Option V} (h : i < σ.length) : look (σ.set i v) j = if j = i then v else look σ j := by
  unfold look
  by_cases e : j = i
  · subst e; rw [List.getElem?_set_self h, if_pos rfl]; rfl
  · rw [List.getElem?_set_ne (Ne.symm e), if_neg e]
theorem look_eq {σ : St} {i : Nat} {v : V} (h : look σ i = some v) : σ[i]? = some (some v) := by
  unfold look at h
  cases e : σ[i]? with
  | none => rw [e] at h; cases h
  | some u => rw [e] at h; rw [show u = some v from h]
theorem look_of {σ : St} {i : Nat} {v : Option V} (h : σ[i]? = some v) : look σ i = v := by unfold look; rw [h]; rfl

/-- a slot forgets its root: what stands there is loose from now on -/
theorem St8.drop {T : Tx} {g : G} {F : Addr → Prop} {H : Hp} {σ : St} {env : En} (S : St8 T g F H σ env) (i : Nat) : St8 T g F H σ (env.set i .no) := by
  refine ⟨by rw [List.length_set]; exact S.len, fun j s e => ?_, fun j k s s' a jk e e' hs hs' => ?_, S.fdom, S.fnew, S.ldom, S.wdom, S.zdom, S.keep⟩
  · by_cases z : j = i
    · subst z
      by_cases hl : j < env.length
      · rw [List.getElem?_set_self hl] at e; cases e; exact .no
      · rw [List.getElem?_eq_none (by simpa using hl)] at e; cases e
    · rw [List.getElem?_set_ne (Ne.symm z)] at e; exact S.sl j s e
  · have f : ∀ {m : Nat} {t : Sl}, (env.set i .no)[m]? = some t → t.rooted = true → env[m]? = some t := fun {m t} q ht => by
      by_cases z : m = i
      · subst z
        by_cases hl : m < env.length
        · rw [List.getElem?_set_self hl] at q; cases q; cases ht
        · rw [List.getElem?_eq_none (by simpa using hl)] at q; cases q
      · rw [List.getElem?_set_ne (Ne.symm z)] at q; exact q
    exact S.dis j k s s' a jk (f e hs) (f e' hs') hs hs'
end Pu
namespace Pu
open PySem PySem.Spec L2
open PyProof.Rows hiding St

/-! ## outcomes -/
structure Exn where
  c : String
  fs : List (Str × D)
inductive Out (α : Type) where
  | ok (a : α) (env : En) | exc (x : Exn) (env : En) | bad
def Out.bind {α β : Type} (o : Out α) (k : α → En → Out β) : Out β :=
  match o with
  | .ok a e => k a e
  | .exc x e => .exc x e
  | .bad => .bad
@[simp] theorem bind_ok {α β : Type} (a : α) (e : En) (k : α → En → Out β) : (Out.ok a e).bind k = k a e := rfl
@[simp] theorem bind_exc {α β : Type} (x : Exn) (e : En) (k : α → En → Out β) : (Out.exc x e : Out α).bind k = .exc x e := rfl
@[simp] theorem bind_bad {α β : Type} (k : α → En → Out β) : (Out.bad : Out α).bind k = .bad := rfl
def Out.of {α : Type} (o : Option α) (e : En) : Out α :=
  match o with
  | some a => .ok a e
  | none => .bad
@[simp] theorem of_some {α : Type} (a : α) (e : En) : Out.of (some a) e = .ok a e := rfl
@[simp] theorem of_none {α : Type} (e : En) : (Out.of none e : Out α) = .bad := rfl
abbrev M (α : Type) := En → Out α

/-- an exception's own dict -/
def XRep (T : Tx) (F : Addr → Prop) (H : Hp) (x : Exn) (dd : Option Addr) : Prop := XR T F H x.fs dd

/-- what a tree must lead to, by its outcome -/
def Goal {α : Type} (T : Tx) (g : G) (W : WX) (F : Addr → Prop) (H : Hp) (Sg : St → Prop) (P : (Addr → Prop) → Hp → St → En → α → Prop) : Out α → Prop
  | .ok a env' => ∀ F' H' σ', Sg σ' → St8 T g F' H' σ' env' → Ext g F H F' H' → P F' H' σ' env' a
  | .exc x env' => ∀ F' H' σ' dd, Sg σ' → St8 T g F' H' σ' env' → Ext g F H F' H' → XRep T F' H' x dd → W (.ref (T.cls x.c)) dd σ' H'
  | .bad => False
section
variable {α β : Type} {T : Tx} {g : G} {W : WX} {F F1 : Addr → Prop} {H H1 : Hp} {Sg Sg1 : St → Prop} {P : (Addr → Prop) → Hp → St → En → α → Prop} {P1 : (Addr → Prop) → Hp → St → En → β → Prop}
theorem Goal.ext {o : Out α} (G : Goal T g W F H Sg P o) (e : Ext g F H F1 H1) : Goal T g W F1 H1 Sg P o := by
  cases o with
  | ok a env => exact fun F' H' σ' hs S E => G F' H' σ' hs S (e.trans E)
  | exc x env => exact fun F' H' σ' dd hs S E => G F' H' σ' dd hs S (e.trans E)
  | bad => exact G
theorem Goal.bind {o : Out β} {k : β → En → Out α} (hS : ∀ σ, Sg1 σ → Sg σ) (G : Goal T g W F H Sg P (o.bind k))
    (h : ∀ a env1 F1 H1 σ1, o = .ok a env1 → Sg1 σ1 → St8 T g F1 H1 σ1 env1 → Ext g F H F1 H1 → Goal T g W F1 H1 Sg P (k a env1) → P1 F1 H1 σ1 env1 a) : Goal T g W F H Sg1 P1 o := by
  cases o with
  | ok a env => exact fun F' H' σ' hs S E => h a env F' H' σ' rfl hs S E (Goal.ext G E)
  | exc x env => exact fun F' H' σ' dd hs S E => G F' H' σ' dd (hS _ hs) S E
  | bad => exact G
theorem Goal.mono {o : Out α} {P' : (Addr → Prop) → Hp → St → En → α → Prop} (G : Goal T g W F H Sg P o) (hS : ∀ σ, Sg1 σ → Sg σ) (h : ∀ a env1 F1 H1 σ1, o = .ok a env1 → Sg1 σ1 → St8 T g F1 H1 σ1 env1 → Ext g F H F1 H1 → P F1 H1 σ1 env1 a → P' F1 H1 σ1 env1 a) : Goal T g W F H Sg1 P' o := by
  cases o with
  | ok a env => exact fun F' H' σ' hs S E => h a env F' H' σ' rfl hs S E (G F' H' σ' (hS _ hs) S E)
  | exc x env => exact fun F' H' σ' dd hs S E => G F' H' σ' dd (hS _ hs) S E
  | bad => exact G
end

/-! ## judgements -/
abbrev RR := (Addr → Prop) → Hp → St → En → D → V → Prop
abbrev RepR (T : Tx) : RR := fun F H _ _ d v => Rep T F H d v
/-- a borrowed thing: it may be a root -/
def RepB (T : Tx) (F : Addr → Prop) (H : Hp) (d : D) (v : V) : Prop := Rep T F H d v ∨ ∃ a, v = .ref a ∧ Con T F H a d
abbrev RepBR (T : Tx) : RR := fun F H _ _ d v => RepB T F H d v
/-- a new root, nobody's -/
structure OwnR (T : Tx) (g : G) (F : Addr → Prop) (H : Hp) (σ : St) (env : En) (d : D) (v : V) : Prop where
  ex : ∃ a, v = .ref a ∧ ¬ F a ∧ ¬ g.L a ∧ g.H0 a = none ∧ ¬ Roots σ env a ∧ Con T F H a d
abbrev EG (T : Tx) (g : G) (W : WX) (R : RR) (F : Addr → Prop) (H : Hp) (σ : St) (Q : VK) (o : Out D) : Prop :=
  Goal T g W F H (· = σ) (fun F' H' σ' env' d => ∀ v, R F' H' σ' env' d v → Q v H') o
structure PX (X : Cx) (T : Tx) (W : WX) (e : Expr) (f : M D) : Prop where
  ex : ∃ t, PE X e t ∧ ∀ g F H σ env Q, St8 T g F H σ env → EG T g W (RepR T) F H σ Q (f env) → t σ H Q
structure PXO (X : Cx) (T : Tx) (W : WX) (e : Expr) (f : M D) : Prop where
  ex : ∃ t, PE X e t ∧ ∀ g F H σ env Q, St8 T g F H σ env → EG T g W (OwnR T g) F H σ Q (f env) → t σ H Q
structure PXB (X : Cx) (T : Tx) (W : WX) (e : Expr) (f : M D) : Prop where
  ex : ∃ t, PE X e t ∧ ∀ g F H σ env Q, St8 T g F H σ env → EG T g W (RepBR T) F H σ Q (f env) → t σ H Q
abbrev TGo (T : Tx) (g : G) (W : WX) (F : Addr → Prop) (H : Hp) (σ : St) (Q : Bool → Hp → Prop) (o : Out Bool) : Prop :=
  Goal T g W F H (· = σ) (fun _ H' _ _ b => Q b H') o
structure PXT (X : Cx) (T : Tx) (W : WX) (e : Expr) (f : M Bool) : Prop where
  ex : ∃ t, PT X e t ∧ ∀ g F H σ env Q, St8 T g F H σ env → TGo T g W F H σ Q (f env) → t σ H Q
structure PXW (X : Cx) (T : Tx) (W : WX) (e : Expr) (f : M Bool) : Prop where
  ex : ∃ t, PW X e t ∧ ∀ g F H σ env Q, St8 T g F H σ env → TGo T g W F H σ Q (f env) → t σ H Q

/-- a statement's outcome -/
inductive Fl where
  | nx | brk | cnt | ret (d : D) | retO (d : D)
def FlP (T : Tx) (g : G) (E : Ends) (F : Addr → Prop) (H : Hp) (σ : St) (env : En) : Fl → Prop
  | .nx => E.nx σ H
  | .brk => E.bk σ H
  | .cnt => E.ct σ H
  | .ret d => ∀ v, Rep T F H d v → E.rt v H
  | .retO d => ∀ v, OwnR T g F H σ env d v → E.rt v H
abbrev SGo (T : Tx) (g : G) (W : WX) (F : Addr → Prop) (H : Hp) (E : Ends) (o : Out Fl) : Prop := Goal T g W F H (fun _ => True) (FlP T g E) o
structure PXS (X : Cx) (T : Tx) (W : WX) (s : Stmt) (f : M Fl) : Prop where
  ex : ∃ t, PS X s t ∧ ∀ g F H σ env E, St8 T g F H σ env → SGo T g W F H E (f env) → t E σ H
structure PXSs (X : Cx) (T : Tx) (W : WX) (s : List Stmt) (f : M Fl) : Prop where
  ex : ∃ t, PSs X s t ∧ ∀ g F H σ env E, St8 T g F H σ env → SGo T g W F H E (f env) → t E σ H
/-- argument lists: values; a slot's root handed in to be changed -/
inductive Av where
  | val (d : D) | sl (i : Nat)
inductive AvR (T : Tx) (F : Addr → Prop) (H : Hp) (σ : St) : Av → V → Prop
  | val {d : D} {v : V} : Rep T F H d v → AvR T F H σ (.val d) v
  | sl {i : Nat} {a : Addr} : look σ i = some (.ref a) → AvR T F H σ (.sl i) (.ref a)
inductive AvsR (T : Tx) (F : Addr → Prop) (H : Hp) (σ : St) : List Av → List V → Prop
  | nil : AvsR T F H σ [] []
  | cons {d : Av} {v : V} {ds : List Av} {vs : List V} : AvR T F H σ d v → AvsR T F H σ ds vs → AvsR T F H σ (d :: ds) (v :: vs)
structure PXA (X : Cx) (T : Tx) (W : WX) (es : List Expr) (f : M (List Av)) : Prop where
  ex : ∃ t, PA X es t ∧ ∀ g F H σ env Q, St8 T g F H σ env → Goal T g W F H (· = σ) (fun F' H' σ' _ ds => ∀ vs, AvsR T F' H' σ' ds vs → Q vs H') (f env) → t σ H Q

/-! ## names, constants -/
section
variable {X : Cx} {T : Tx} {W : WX}
theorem PX.b {e : Expr} {f : M D} (h : PX X T W e f) : PXB X T W e f := by
  obtain ⟨t, p, h⟩ := h.ex
  exact ⟨t, p, fun g F H σ env Q S G => h g F H σ env Q S (G.mono (fun _ h => h) fun a env1 F1 H1 σ1 _ hs S1 E1 q v r => q v (.inl r))⟩
/-- a new root is frozen -/
theorem PXO.fz {e : Expr} {f : M D} (h : PXO X T W e f) : PX X T W e f := by
  obtain ⟨t, p, h⟩ := h.ex
  refine ⟨t, p, fun g F H σ env Q S G => h g F H σ env Q S ?_⟩
  cases e : f env with
  | ok d env' =>
    rw [e] at G
    intro F' H' σ' hs S' E' v r
    obtain ⟨a, ev, n1, n2, n3, n4, c⟩ := r.ex
    obtain ⟨o, ho, _⟩ := c.there
    obtain ⟨S2, E2⟩ := S'.freeze ⟨o, ho⟩ n3 n2 n4
    subst ev
    exact G _ H' σ' hs S2 (E'.trans E2) _ ((c.mono E2.f E2.k fun _ h => h).rep (.inr rfl))
  | exc x env' => rw [e] at G; exact G
  | bad => rw [e] at G; exact G
theorem PXO.b {e : Expr} {f : M D} (h : PXO X T W e f) : PXB X T W e f := by
  obtain ⟨t, p, h⟩ := h.ex
  refine ⟨t, p, fun g F H σ env Q S G => h g F H σ env Q S (G.mono (fun _ h => h) fun a env1 F1 H1 σ1 _ hs S1 E1 q v r => ?_)⟩
  obtain ⟨a, ev, n1, n2, n3, n4, c⟩ := r.ex
  exact q v (.inr ⟨a, ev, c⟩)

def eC (d : D) : M D := fun env => .ok d env
theorem PX.int {i : Int} {j pos} : PX X T W (.Constant (.int i) j pos) (eC (.int i)) :=
  ⟨_, pe_int, fun g F H σ env Q S G => G F H σ rfl S .refl _ (.int i)⟩
theorem PX.bl {b : Bool} {j pos} : PX X T W (.Constant (.bool b) j pos) (eC (.bl b)) :=
  ⟨_, pe_bl, fun g F H σ env Q S G => G F H σ rfl S .refl _ (.bl b)⟩
theorem PX.non {j pos} : PX X T W (.Constant .none j pos) (eC .non) :=
  ⟨_, pe_non, fun g F H σ env Q S G => G F H σ rfl S .refl _ .non⟩
theorem PX.str {x : Str} {j pos} : PX X T W (.Constant (.str x) j pos) (eC (.str x)) :=
  ⟨_, pe_str, fun g F H σ env Q S G => G F H σ rfl S .refl _ (.str x)⟩
/-- a module's constant: an int, a text -/
theorem PX.gstr {x : Str} {z : Str} {tk : Tok} {pos : Pos} (hg : Gl X x) (hm : X.mg x = some (.str z tk)) (hd : (x == ("__debug__" : Str)) = false := by decide) : PX X T W (.Name x pos) (eC (.str z)) :=
  ⟨_, pe_glob (v := .str z) hg hm ⟨_, rfl⟩ hd, fun g F H σ env Q S G => G F H σ rfl S .refl _ (.str z)⟩
theorem PX.gint {x : Str} {z : Int} {tk : Tok} {pos : Pos} (hg : Gl X x) (hm : X.mg x = some (.int z tk)) (hd : (x == ("__debug__" : Str)) = false := by decide) : PX X T W (.Name x pos) (eC (.int z)) :=
  ⟨_, pe_glob (v := .int z) hg hm ⟨_, rfl⟩ hd, fun g F H σ env Q S G => G F H σ rfl S .refl _ (.int z)⟩
theorem PX.gfn {x : Str} {f : String} {pos : Pos} (hg : Gl X x) (hm : X.mg x = some (.ref (T.fn f))) (hd : (x == ("__debug__" : Str)) = false := by decide) : PX X T W (.Name x pos) (eC (.fn f)) :=
  ⟨_, pe_glob (v := .ref (T.fn f)) hg hm rfl hd, fun g F H σ env Q S G => G F H σ rfl S .refl _ (.fn f)⟩

/-- a name's slot, borrowed -/
def bVar (i : Nat) : M D := fun env => match env[i]? with
  | some (.val d) => .ok d env
  | some (.own d) => .ok d env
  | some (.io d) => .ok d env
  | _ => .bad
/-- a name's slot, frozen -/
def eVar (i : Nat) : M D := fun env => match env[i]? with
  | some (.val d) => .ok d env
  | some (.own d) => .ok d (env.set i (.val d))
  | _ => .bad
theorem SlR.cases_val {g : G} {F : Addr → Prop} {H : Hp} {i : Nat} {v : Option V} {d : D} (r : SlR T g F H i v (.val d)) : ∃ x, v = some x ∧ Rep T F H d x := by
  cases r with
  | val e r => exact ⟨_, e, r⟩
theorem PXB.var (i : Nat) {x : Str} {pos : Pos} (hN : X.N[i]? = some x := by rfl) (hv : Vis X.env.scope x := by first | exact Or.inl rfl | exact Or.inr (Or.inl rfl) | exact Or.inr (Or.inr rfl)) (hd : (x == ("__debug__" : Str)) = false := by decide)
    (hcd : (x == ("__classdict__" : Str)) = false := by decide) : PXB X T W (.Name x pos) (bVar i) := by
  refine ⟨_, pe_var hN hv hd hcd, fun g F H σ env Q S G => ?_⟩
  unfold bVar at G
  cases e : env[i]? with
  | none => rw [e] at G; exact G.elim
  | some s =>
    rw [e] at G
    have r := S.sl i s e
    cases s with
    | no => exact G.elim
    | hd => exact G.elim
    | val d => obtain ⟨x, h1, h2⟩ := r.cases_val; exact ⟨x, look_eq h1, G F H σ rfl S .refl x (.inl h2)⟩
    | own d => obtain ⟨a, d', h1, h2, h3, _⟩ := r.root rfl; cases r with | own e1 _ _ _ c => exact ⟨_, look_eq e1, G F H σ rfl S .refl _ (.inr ⟨_, rfl, c⟩)⟩
    | io d => cases r with | io e1 _ _ _ c => exact ⟨_, look_eq e1, G F H σ rfl S .refl _ (.inr ⟨_, rfl, c⟩)⟩
/-- a slot is put -/
theorem St8.put {g : G} {F : Addr → Prop} {H : Hp} {σ : St} {env : En} (S : St8 T g F H σ env) (i : Nat) (v : Option V) (s : Sl) (hl : i < env.length) (r : SlR T g F H i v s)
    (hr : s.rooted = true → ∀ a, v = some (.ref a) → ∀ j t, j ≠ i → env[j]? = some t → t.rooted = true → look σ j ≠ some (.ref a)) : St8 T g F H (σ.set i v) (env.set i s) := by
  have hσ : i < σ.length := by rw [← S.len]; exact hl
  refine ⟨by rw [List.length_set, List.length_set]; exact S.len, fun j t e => ?_, fun j k t t' a jk e e' ht ht' lj lk => ?_, S.fdom, S.fnew, S.ldom, S.wdom, S.zdom, S.keep⟩
  · rw [look_set hσ]
    by_cases z : j = i
    · subst z
      rw [List.getElem?_set_self hl] at e
      cases e
      rw [if_pos rfl]; exact r
    · rw [List.getElem?_set_ne (Ne.symm z)] at e
      rw [if_neg z]; exact S.sl j t e
  · rw [look_set hσ] at lj lk
    by_cases zj : j = i
    · subst zj
      rw [if_pos rfl] at lj
      rw [if_neg (Ne.symm jk)] at lk
      rw [List.getElem?_set_self hl] at e
      cases e
      rw [List.getElem?_set_ne jk] at e'
      exact hr ht a lj k t' (Ne.symm jk) e' ht' lk
    · rw [if_neg zj] at lj
      rw [List.getElem?_set_ne (Ne.symm zj)] at e
      by_cases zk : k = i
      · subst zk
        rw [if_pos rfl] at lk
        rw [List.getElem?_set_self hl] at e'
        cases e'
        exact hr ht' a lk j t zj e ht lj
      · rw [if_neg zk] at lk
        rw [List.getElem?_set_ne (Ne.symm zk)] at e'
        exact S.dis j k t t' a jk e e' ht ht' lj lk
theorem look_self {σ : St} {i : Nat} {v : Option V} (h : look σ i = v) (hl : i < σ.length) : σ.set i v = σ := by
  apply List.ext_getElem?
  intro j
  by_cases e : j = i
  · subst e
    rw [List.getElem?_set_self hl]
    unfold look at h
    rw [List.getElem?_eq_getElem hl] at h ⊢
    rw [← h]; rfl
  · rw [List.getElem?_set_ne (Ne.symm e)]
/-- the same where the slot's value stays -/
theorem St8.sign {g : G} {F : Addr → Prop} {H : Hp} {σ : St} {env : En} (S : St8 T g F H σ env) (i : Nat) (s : Sl) (hl : i < env.length) (r : SlR T g F H i (look σ i) s)
    (hr : s.rooted = true → ∀ a, look σ i = some (.ref a) → ∀ j t, j ≠ i → env[j]? = some t → t.rooted = true → look σ j ≠ some (.ref a)) : St8 T g F H σ (env.set i s) := by
  have := S.put i (look σ i) s hl r hr
  rw [look_self rfl (by rw [← S.len]; exact hl)] at this
  exact this
theorem PX.var (i : Nat) {x : Str} {pos : Pos} (hN : X.N[i]? = some x := by rfl) (hv : Vis X.env.scope x := by first | exact Or.inl rfl | exact Or.inr (Or.inl rfl) | exact Or.inr (Or.inr rfl)) (hd : (x == ("__debug__" : Str)) = false := by decide)
    (hcd : (x == ("__classdict__" : Str)) = false := by decide) : PX X T W (.Name x pos) (eVar i) := by
  refine ⟨_, pe_var hN hv hd hcd, fun g F H σ env Q S G => ?_⟩
  unfold eVar at G
  cases e : env[i]? with
  | none => rw [e] at G; exact G.elim
  | some s =>
    rw [e] at G
    have r := S.sl i s e
    have hi : i < env.length := (List.getElem?_eq_some_iff.mp e).1
    cases s with
    | no => exact G.elim
    | hd => exact G.elim
    | val d => obtain ⟨x, h1, h2⟩ := r.cases_val; exact ⟨x, look_eq h1, G F H σ rfl S .refl x h2⟩
    | own d =>
      cases r with
      | own e1 n1 n2 n3 c =>
        rename_i a
        obtain ⟨o, ho, _⟩ := c.there
        have S1 := S.drop i
        have nr : ¬ Roots σ (env.set i .no) a := by
          rintro ⟨j, t, q, ht, l⟩
          by_cases z : j = i
          · subst z; rw [List.getElem?_set_self hi] at q; cases q; cases ht
          · rw [List.getElem?_set_ne (Ne.symm z)] at q
            exact S.dis i j _ t a (Ne.symm z) e q rfl ht e1 l
        obtain ⟨S2, E2⟩ := S1.freeze ⟨o, ho⟩ n3 n2 nr
        have rp := (c.mono E2.f E2.k fun _ h => h).rep (.inr rfl)
        have S3 := S2.sign i (.val d) (by rw [List.length_set]; exact hi) (.val e1 rp) (fun z => by cases z)
        rw [List.set_set] at S3
        exact ⟨_, look_eq e1, G _ H σ rfl S3 E2 _ rp⟩
    | io d => exact G.elim
end
end Pu
namespace Pu
open PySem PySem.Spec L2
open PyProof.Rows hiding St

section
variable {T : Tx} {F : Addr → Prop} {H : Hp} {v : V}
theorem RepB.int {i : Int} (h : RepB T F H (.int i) v) : v = .int i := by
  rcases h with h | ⟨a, _, c⟩
  · cases h; rfl
  · cases c
theorem RepB.str {i : Str} (h : RepB T F H (.str i) v) : v = .str i := by
  rcases h with h | ⟨a, _, c⟩
  · cases h; rfl
  · cases c
theorem RepB.bl {i : Bool} (h : RepB T F H (.bl i) v) : v = .bl i := by
  rcases h with h | ⟨a, _, c⟩
  · cases h; rfl
  · cases c
theorem RepB.non (h : RepB T F H .non v) : v = .non := by
  rcases h with h | ⟨a, _, c⟩
  · cases h; rfl
  · cases c
theorem RepB.tup {ds : List D} (h : RepB T F H (.tup ds) v) : ∃ a xs, v = .ref a ∧ (evish ds = false → H a = some (.tup xs)) ∧ Rd H a (.tup xs) ∧ RepL T F H ds xs := by
  rcases h with h | ⟨a, _, c⟩
  · cases h with
    | tup h1 h2 h3 => exact ⟨_, _, rfl, fun _ => h2, .inl h2, h3⟩
    | tpl h1 h2 h3 h4 h5 => exact ⟨_, _, rfl, fun z => by (rw [h1] at z; cases z), .inr ⟨_, h3⟩, h5⟩
  · cases c
theorem RepB.tpl {ds : List D} (h : RepB T F H (.tup ds) v) (he : evish ds = true) : ∃ a xs o, v = .ref a ∧ F a ∧ H a = some (.frz o (.tup xs)) ∧ NoDct o ∧ RepL T F H ds xs := by
  rcases h with h | ⟨a, _, c⟩
  · cases h with
    | tup h1 h2 h3 => rw [he] at h1; cases h1
    | tpl h1 h2 h3 h4 h5 => exact ⟨_, _, _, rfl, h2, h3, h4, h5⟩
  · cases c
theorem RepB.lst {ds : List D} (h : RepB T F H (.lst ds) v) : ∃ a xs, v = .ref a ∧ H a = some (.lst xs) ∧ RepL T F H ds xs := by
  rcases h with h | ⟨a, e, c⟩
  · cases h with | lst h1 h2 h3 => exact ⟨_, _, rfl, h2, h3⟩
  · cases c with | lst h1 h2 => exact ⟨_, _, e, h1, h2⟩
/-- what the top's text holds of the script -/
def ScK (K : PySem.W.Frag) (T : Tx) : Prop := ∀ a ns, T.sc a ns → ∀ H, SqL K H a (ns.map V.int)
theorem RepB.scr {K : PySem.W.Frag} {ns : List Int} (hS : ScK K T) (h : RepB T F H (.scr ns) v) : ∃ a, v = .ref a ∧ SqL K H a (ns.map V.int) := by
  rcases h with h | ⟨a, e, c⟩
  · cases h with | scr h => exact ⟨_, rfl, h.elim (fun ⟨_, o, h⟩ => .inl (.inr ⟨o, h⟩)) fun h => hS _ _ h _⟩
  · cases c
theorem RepB.dct {ds : List (List Key × D)} (h : RepB T F H (.dct ds) v) : ∃ a xs, v = .ref a ∧ Rd H a (.dT xs) ∧ RepT T F H ds xs := by
  rcases h with h | ⟨a, e, c⟩
  · cases h with | dct h1 h2 h3 => exact ⟨_, _, rfl, h2, h3⟩
  · cases c with | dct h1 h2 => exact ⟨_, _, e, .inl h1, h2⟩
theorem RepB.ins {c : String} {ds : List (Str × D)} (h : RepB T F H (.ins c ds) v) : ∃ a dx xs, v = .ref a ∧ H a = some (.ins (T.cls c) dx xs) ∧ RepF T F H ds xs := by
  rcases h with h | ⟨a, e, c⟩
  · cases h with | ins h1 h2 h3 => exact ⟨_, _, _, rfl, h2, h3⟩
  · cases c with | ins h1 h2 => exact ⟨_, _, _, e, h1, h2⟩
theorem Rep.rb {d : D} (h : Rep T F H d v) : RepB T F H d v := .inl h
theorem RepL.int1 {ds : List D} {xs : List V} {ns : List Int} (h : RepL T F H ds xs) (e : ds = ns.map D.int) : xs = ns.map V.int := by
  subst e; exact h.ints
end

/-! ## operators by values -/
structure OpD (X : Cx) (T : Tx) (f : Value → Value → Sem Value) (gD : D → D → Option D) : Prop where
  ex : ∃ r : R2, OpR X f r ∧ ∀ g F H σ env d1 d2 v1 v2 d Q, St8 T g F H σ env → RepB T F H d1 v1 → RepB T F H d2 v2 → gD d1 d2 = some d →
    (∀ F' H' v, St8 T g F' H' σ env → Ext g F H F' H' → Rep T F' H' d v → Q v H') → r v1 v2 H Q
section
variable {X : Cx} {T : Tx} {W : WX} {f : Value → Value → Sem Value}
theorem OpD.mono {g1 g2 : D → D → Option D} (h : OpD X T f g1) (hg : ∀ a b d, g2 a b = some d → g1 a b = some d) : OpD X T f g2 := by
  obtain ⟨r, o, p⟩ := h.ex
  exact ⟨r, o, fun g F H σ env d1 d2 v1 v2 d Q S a b e k => p g F H σ env d1 d2 v1 v2 d Q S a b (hg _ _ _ e) k⟩
theorem OpD.or {g1 g2 : D → D → Option D} (h : OpD X T f g1) (h' : OpD X T f g2) : OpD X T f (fun a b => (g1 a b).or (g2 a b)) := by
  obtain ⟨r, o, p⟩ := h.ex
  obtain ⟨r', o', p'⟩ := h'.ex
  refine ⟨_, o.or o', fun g F H σ env d1 d2 v1 v2 d Q S a b e k => ?_⟩
  cases q : g1 d1 d2 with
  | some z => rw [q] at e; obtain rfl : z = d := Option.some.inj e; exact .inl (p g F H σ env d1 d2 v1 v2 z Q S a b q k)
  | none => rw [q] at e; exact .inr (p' g F H σ env d1 d2 v1 v2 d Q S a b e k)
/-- a scalar out, nothing changed -/
theorem OpD.pure {r : R2} {gD : D → D → Option D} (o : OpR X f r) (h : ∀ T F H d1 d2 v1 v2 d Q, RepB T F H d1 v1 → RepB T F H d2 v2 → gD d1 d2 = some d → (∀ v, Rep T F H d v → Q v H) → r v1 v2 H Q) : OpD X T f gD :=
  ⟨r, o, fun g F H σ env d1 d2 v1 v2 d Q S a b e k => h T F H d1 d2 v1 v2 d Q a b e fun v rv => k F H v S .refl rv⟩

def eOp (gD : D → D → Option D) (fa fb : M D) : M D := fun env => (fa env).bind fun d1 e1 => (fb e1).bind fun d2 e2 => Out.of (gD d1 d2) e2
def tVal (f : M D) : M Bool := fun env => (f env).bind fun d e => match d with
  | .bl b => .ok b e
  | _ => .bad
/-- two readings in a row, then an operation -/
theorem op_core {gD : D → D → Option D} {a b : Expr} {fa fb : M D} {ta tb : TE} {r : R2} (pa : ∀ g F H σ env Q, St8 T g F H σ env → EG T g W (RepR T) F H σ Q (fa env) → ta σ H Q)
    (pb : ∀ g F H σ env Q, St8 T g F H σ env → EG T g W (RepBR T) F H σ Q (fb env) → tb σ H Q)
    (po : ∀ g F H σ env d1 d2 v1 v2 d Q, St8 T g F H σ env → RepB T F H d1 v1 → RepB T F H d2 v2 → gD d1 d2 = some d → (∀ F' H' v, St8 T g F' H' σ env → Ext g F H F' H' → Rep T F' H' d v → Q v H') → r v1 v2 H Q)
    {g : G} {F : Addr → Prop} {H : Hp} {σ : St} {env : En} {Q : VK} (S : St8 T g F H σ env) (G : EG T g W (RepR T) F H σ Q (eOp gD fa fb env)) : tOp r ta tb σ H Q := by
  refine pa g F H σ env _ S (Goal.bind (fun _ h => h) G fun d1 e1 F1 H1 σ1 _ hs S1 E1 G1 v1 r1 => ?_)
  subst hs
  refine pb g F1 H1 σ1 e1 _ S1 (Goal.bind (fun _ h => h) G1 fun d2 e2 F2 H2 σ2 _ hs S2 E2 G2 v2 r2 => ?_)
  subst hs
  cases q : gD d1 d2 with
  | none => rw [q] at G2; exact G2.elim
  | some d =>
    rw [q] at G2
    exact po g F2 H2 σ2 e2 d1 d2 v1 v2 d Q S2 (r1.ext E2).rb r2 q fun F' H' v S' E' rv => G2 F' H' σ2 rfl S' E' v rv
theorem PX.op {op : Operator} {gD : D → D → Option D} {a b : Expr} {fa fb : M D} {pos : Pos} (ho : OpD X T (binaryOp op) gD) (ha : PX X T W a fa) (hb : PXB X T W b fb) : PX X T W (.BinOp a op b pos) (eOp gD fa fb) := by
  obtain ⟨r, o, po⟩ := ho.ex
  obtain ⟨ta, qa, pa⟩ := ha.ex
  obtain ⟨tb, qb, pb⟩ := hb.ex
  exact ⟨_, pe_op o qa qb, fun g F H σ env Q S G => op_core (a := a) (b := b) pa pb po S G⟩
theorem PX.cmp {op : CmpOp} {gD : D → D → Option D} {a b : Expr} {fa fb : M D} {pos : Pos} (ho : OpD X T (compareOp op) gD) (ha : PX X T W a fa) (hb : PXB X T W b fb) (hm : behindInMarks op b = false) : PX X T W (.Compare a [op] [b] pos) (eOp gD fa fb) := by
  obtain ⟨r, o, po⟩ := ho.ex
  obtain ⟨ta, qa, pa⟩ := ha.ex
  obtain ⟨tb, qb, pb⟩ := hb.ex
  exact ⟨_, pe_cmpR o qa qb hm, fun g F H σ env Q S G => op_core (a := a) (b := b) pa pb po S G⟩
/-- from a value's goal to a test's -/
theorem goal_test {g : G} {F : Addr → Prop} {H : Hp} {σ : St} {f : M D} {env : En} {Q : Bool → Hp → Prop} (G : TGo T g W F H σ Q (tVal f env)) : EG T g W (RepR T) F H σ (fun x H' => ∃ k, x = .bl k ∧ Q k H') (f env) := by
  refine Goal.bind (fun _ h => h) G fun d e F1 H1 σ1 _ hs S1 E1 G1 v r => ?_
  cases d with
  | bl b => cases r; exact ⟨b, rfl, G1 F1 H1 σ1 hs S1 .refl⟩
  | _ => exact G1.elim
theorem PXT.cmp {op : CmpOp} {gD : D → D → Option D} {a b : Expr} {fa fb : M D} {pos : Pos} (ho : OpD X T (compareOp op) gD) (ha : PX X T W a fa) (hb : PXB X T W b fb) (hm : behindInMarks op b = false) : PXT X T W (.Compare a [op] [b] pos) (tVal (eOp gD fa fb)) := by
  obtain ⟨r, o, po⟩ := ho.ex
  obtain ⟨ta, qa, pa⟩ := ha.ex
  obtain ⟨tb, qb, pb⟩ := hb.ex
  exact ⟨_, pt_cmpR o qa qb hm, fun g F H σ env Q S G => op_core (a := a) (b := b) pa pb po S (goal_test G)⟩
def eChain (g1 g2 : D → D → Option D) (fa fb fc : M D) : M D := fun env => (fa env).bind fun d1 e1 => (fb e1).bind fun d2 e2 => match g1 d1 d2 with
  | some (.bl true) => (fc e2).bind fun d3 e3 => Out.of (g2 d2 d3) e3
  | some (.bl false) => .ok (.bl false) e2
  | _ => .bad
theorem chain_core {g1 g2 : D → D → Option D} {fa fb fc : M D} {ta tb tc : TE} {r r' : R2} (pa : ∀ g F H σ env Q, St8 T g F H σ env → EG T g W (RepR T) F H σ Q (fa env) → ta σ H Q)
    (pb : ∀ g F H σ env Q, St8 T g F H σ env → EG T g W (RepR T) F H σ Q (fb env) → tb σ H Q)
    (pc : ∀ g F H σ env Q, St8 T g F H σ env → EG T g W (RepBR T) F H σ Q (fc env) → tc σ H Q)
    (po : ∀ g F H σ env d1 d2 v1 v2 d Q, St8 T g F H σ env → RepB T F H d1 v1 → RepB T F H d2 v2 → g1 d1 d2 = some d → (∀ F' H' v, St8 T g F' H' σ env → Ext g F H F' H' → Rep T F' H' d v → Q v H') → r v1 v2 H Q)
    (po' : ∀ g F H σ env d1 d2 v1 v2 d Q, St8 T g F H σ env → RepB T F H d1 v1 → RepB T F H d2 v2 → g2 d1 d2 = some d → (∀ F' H' v, St8 T g F' H' σ env → Ext g F H F' H' → Rep T F' H' d v → Q v H') → r' v1 v2 H Q)
    {g : G} {F : Addr → Prop} {H : Hp} {σ : St} {env : En} {Q : VK} (S : St8 T g F H σ env) (G : EG T g W (RepR T) F H σ Q (eChain g1 g2 fa fb fc env)) : tChain r r' ta tb tc σ H Q := by
  refine pa g F H σ env _ S (Goal.bind (fun _ h => h) G fun d1 e1 F1 H1 σ1 _ hs S1 E1 G1 v1 r1 => ?_)
  subst hs
  refine pb g F1 H1 σ1 e1 _ S1 (Goal.bind (fun _ h => h) G1 fun d2 e2 F2 H2 σ2 _ hs S2 E2 G2 v2 r2 => ?_)
  subst hs
  have r1 := r1.ext E2
  cases q : g1 d1 d2 with
  | none => simp only [q] at G2; exact G2.elim
  | some d =>
    refine po g F2 H2 σ2 e2 d1 d2 v1 v2 d _ S2 r1.rb r2.rb q fun F3 H3 v3 S3 E3 r3 => ?_
    simp only [q] at G2
    cases d with
    | bl b =>
      cases r3
      refine ⟨b, rfl, ?_⟩
      cases b with
      | true =>
        rw [if_pos rfl]
        refine pc g F3 H3 σ2 e2 _ S3 (Goal.bind (fun _ h => h) (Goal.ext G2 E3) fun d3 e3 F4 H4 σ4 _ hs S4 E4 G4 v4 r4 => ?_)
        subst hs
        cases q2 : g2 d2 d3 with
        | none => rw [q2] at G4; exact G4.elim
        | some d => rw [q2] at G4; exact po' g F4 H4 σ4 e3 d2 d3 v2 v4 d Q S4 ((r2.ext E3).ext E4).rb r4 q2 fun F' H' v S' E' rv => G4 F' H' σ4 rfl S' E' v rv
      | false =>
        rw [if_neg Bool.false_ne_true]
        exact G2 F3 H3 σ2 rfl S3 E3 _ (.bl false)
    | _ => exact G2.elim
theorem PX.chain {op op' : CmpOp} {g1 g2 : D → D → Option D} {a b c : Expr} {fa fb fc : M D} {pos : Pos} (ho : OpD X T (compareOp op) g1) (ho' : OpD X T (compareOp op') g2) (ha : PX X T W a fa) (hb : PX X T W b fb) (hc : PXB X T W c fc)
    (hm : lastMarks [op, op'] [b, c] = false := by with_unfolding_all rfl) : PX X T W (.Compare a [op, op'] [b, c] pos) (eChain g1 g2 fa fb fc) := by
  obtain ⟨r, o, po⟩ := ho.ex
  obtain ⟨r', o', po'⟩ := ho'.ex
  obtain ⟨ta, qa, pa⟩ := ha.ex
  obtain ⟨tb, qb, pb⟩ := hb.ex
  obtain ⟨tc, qc, pc⟩ := hc.ex
  exact ⟨_, pe_chain o o' qa qb qc hm, fun g F H σ env Q S G => chain_core pa pb pc po po' S G⟩
theorem PXT.chain {op op' : CmpOp} {g1 g2 : D → D → Option D} {a b c : Expr} {fa fb fc : M D} {pos : Pos} (ho : OpD X T (compareOp op) g1) (ho' : OpD X T (compareOp op') g2) (ha : PX X T W a fa) (hb : PX X T W b fb) (hc : PXB X T W c fc)
    (hm : lastMarks [op, op'] [b, c] = false := by with_unfolding_all rfl) : PXT X T W (.Compare a [op, op'] [b, c] pos) (tVal (eChain g1 g2 fa fb fc)) := by
  obtain ⟨r, o, po⟩ := ho.ex
  obtain ⟨r', o', po'⟩ := ho'.ex
  obtain ⟨ta, qa, pa⟩ := ha.ex
  obtain ⟨tb, qb, pb⟩ := hb.ex
  obtain ⟨tc, qc, pc⟩ := hc.ex
  exact ⟨_, pt_chain o o' qa qb qc hm, fun g F H σ env Q S G => chain_core pa pb pc po po' S (goal_test G)⟩

/-! ## and, or, not, if -/
def tAnd' (f g : M Bool) : M Bool := fun env => (f env).bind fun b e => if b = true then g e else .ok false e
def tOr' (f g : M Bool) : M Bool := fun env => (f env).bind fun b e => if b = true then .ok true e else g e
def tNot' (f : M Bool) : M Bool := fun env => (f env).bind fun b e => .ok (!b) e
theorem PXW.and1 {a : Expr} {fa : M Bool} {pos : Pos} (ha : PXT X T W a fa) : PXW X T W (.BoolOp .And [a] pos) fa := by
  obtain ⟨t, p, h⟩ := ha.ex
  exact ⟨t, pw_and1 p, h⟩
theorem PXW.or1 {a : Expr} {fa : M Bool} {pos : Pos} (ha : PXT X T W a fa) : PXW X T W (.BoolOp .Or [a] pos) fa := by
  obtain ⟨t, p, h⟩ := ha.ex
  exact ⟨t, pw_or1 p, h⟩
theorem PXW.and {a b : Expr} {rest : List Expr} {fa fb : M Bool} {pos : Pos} (ha : PXT X T W a fa) (hb : PXW X T W (.BoolOp .And (b :: rest) pos) fb) : PXW X T W (.BoolOp .And (a :: b :: rest) pos) (tAnd' fa fb) := by
  obtain ⟨ta, qa, pa⟩ := ha.ex
  obtain ⟨tb, qb, pb⟩ := hb.ex
  refine ⟨_, pw_and qa qb, fun g F H σ env Q S G => pa g F H σ env _ S (Goal.bind (fun _ h => h) G fun b e1 F1 H1 σ1 _ hs S1 E1 G1 => ?_)⟩
  subst hs
  cases b with
  | true => rw [if_pos rfl] at G1 ⊢; exact pb g F1 H1 σ1 e1 Q S1 G1
  | false => rw [if_neg Bool.false_ne_true] at G1 ⊢; exact G1 F1 H1 σ1 rfl S1 .refl
theorem PXW.or {a b : Expr} {rest : List Expr} {fa fb : M Bool} {pos : Pos} (ha : PXT X T W a fa) (hb : PXW X T W (.BoolOp .Or (b :: rest) pos) fb) : PXW X T W (.BoolOp .Or (a :: b :: rest) pos) (tOr' fa fb) := by
  obtain ⟨ta, qa, pa⟩ := ha.ex
  obtain ⟨tb, qb, pb⟩ := hb.ex
  refine ⟨_, pw_or qa qb, fun g F H σ env Q S G => pa g F H σ env _ S (Goal.bind (fun _ h => h) G fun b e1 F1 H1 σ1 _ hs S1 E1 G1 => ?_)⟩
  subst hs
  cases b with
  | true => rw [if_pos rfl] at G1 ⊢; exact G1 F1 H1 σ1 rfl S1 .refl
  | false => rw [if_neg Bool.false_ne_true] at G1 ⊢; exact pb g F1 H1 σ1 e1 Q S1 G1
theorem PXW.t {e : Expr} {f : M Bool} (h : PXW X T W e f) : PXT X T W e f := by
  obtain ⟨t, p, h⟩ := h.ex
  exact ⟨t, p.pt, h⟩
theorem PXT.not {a : Expr} {fa : M Bool} {pos : Pos} (ha : PXT X T W a fa) : PXT X T W (.UnaryOp .Not a pos) (tNot' fa) := by
  obtain ⟨ta, qa, pa⟩ := ha.ex
  refine ⟨_, pt_not qa, fun g F H σ env Q S G => pa g F H σ env _ S (Goal.bind (fun _ h => h) G fun b e1 F1 H1 σ1 _ hs S1 E1 G1 => ?_)⟩
  exact G1 F1 H1 σ1 hs S1 .refl
/-- a test of a value that is a bool -/
theorem PXT.val {e : Expr} {f : M D} (h : PX X T W e f) (he : ∀ whole, isTrue e X.env whole = (do let v ← whole; standAt e.pos; holding [v] (truthy v)) := by intro _; rfl) : PXT X T W e (tVal f) := by
  obtain ⟨t, p, h⟩ := h.ex
  refine ⟨_, pt_val p he, fun g F H σ env Q S G => h g F H σ env _ S (goal_test G)⟩
/-- and, or, not of bools as values -/
def eAnd (fa fb : M D) : M D := fun env => (fa env).bind fun d e => match d with
  | .bl true => fb e
  | .bl false => .ok (.bl false) e
  | _ => .bad
def eOr (fa fb : M D) : M D := fun env => (fa env).bind fun d e => match d with
  | .bl false => fb e
  | .bl true => .ok (.bl true) e
  | _ => .bad
def eNot (fa : M D) : M D := fun env => (fa env).bind fun d e => match d with
  | .bl b => .ok (.bl (!b)) e
  | _ => .bad
theorem PX.one {op : BoolOp} {a : Expr} {f : M D} {pos : Pos} (h : PX X T W a f) : PX X T W (.BoolOp op [a] pos) f := by
  obtain ⟨t, p, h⟩ := h.ex
  exact ⟨t, pe_one p, h⟩
theorem PX.and {a b : Expr} {rest : List Expr} {fa fb : M D} {pos : Pos} (ha : PX X T W a fa) (hb : PX X T W (.BoolOp .And (b :: rest) pos) fb) : PX X T W (.BoolOp .And (a :: b :: rest) pos) (eAnd fa fb) := by
  obtain ⟨ta, qa, pa⟩ := ha.ex
  obtain ⟨tb, qb, pb⟩ := hb.ex
  refine ⟨_, pe_and qa qb, fun g F H σ env Q S G => pa g F H σ env _ S (Goal.bind (fun _ h => h) G fun d e1 F1 H1 σ1 _ hs S1 E1 G1 v r => ?_)⟩
  subst hs
  cases d with
  | bl b =>
    cases r
    refine ⟨b, rfl, ?_⟩
    cases b with
    | true => rw [if_pos rfl]; exact pb g F1 H1 σ1 e1 Q S1 G1
    | false => rw [if_neg Bool.false_ne_true]; exact G1 F1 H1 σ1 rfl S1 .refl _ (.bl false)
  | _ => exact G1.elim
theorem PX.or {a b : Expr} {rest : List Expr} {fa fb : M D} {pos : Pos} (ha : PX X T W a fa) (hb : PX X T W (.BoolOp .Or (b :: rest) pos) fb) : PX X T W (.BoolOp .Or (a :: b :: rest) pos) (eOr fa fb) := by
  obtain ⟨ta, qa, pa⟩ := ha.ex
  obtain ⟨tb, qb, pb⟩ := hb.ex
  refine ⟨_, pe_or qa qb, fun g F H σ env Q S G => pa g F H σ env _ S (Goal.bind (fun _ h => h) G fun d e1 F1 H1 σ1 _ hs S1 E1 G1 v r => ?_)⟩
  subst hs
  cases d with
  | bl b =>
    cases r
    refine ⟨b, rfl, ?_⟩
    cases b with
    | false => rw [if_neg Bool.false_ne_true]; exact pb g F1 H1 σ1 e1 Q S1 G1
    | true => rw [if_pos rfl]; exact G1 F1 H1 σ1 rfl S1 .refl _ (.bl true)
  | _ => exact G1.elim
theorem PX.not {a : Expr} {fa : M D} {pos : Pos} (ha : PX X T W a fa) : PX X T W (.UnaryOp .Not a pos) (eNot fa) := by
  obtain ⟨ta, qa, pa⟩ := ha.ex
  refine ⟨_, pe_not qa, fun g F H σ env Q S G => pa g F H σ env _ S (Goal.bind (fun _ h => h) G fun d e1 F1 H1 σ1 _ hs S1 E1 G1 v r => ?_)⟩
  cases d with
  | bl b => cases r; exact ⟨b, rfl, G1 F1 H1 σ1 hs S1 .refl _ (.bl _)⟩
  | _ => exact G1.elim
def eIf (fc : M Bool) (fa fb : M D) : M D := fun env => (fc env).bind fun b e => if b = true then fa e else fb e
theorem PX.ifE {a b c : Expr} {fa fb : M D} {fc : M Bool} {pos : Pos} (hc : PXT X T W c fc) (ha : PX X T W a fa) (hb : PX X T W b fb) : PX X T W (.IfExp c a b pos) (eIf fc fa fb) := by
  obtain ⟨ta, qa, pa⟩ := ha.ex
  obtain ⟨tb, qb, pb⟩ := hb.ex
  obtain ⟨tc, qc, pc⟩ := hc.ex
  refine ⟨_, pe_ifExp qc qa qb, fun g F H σ env Q S G => pc g F H σ env _ S (Goal.bind (fun _ h => h) G fun b e1 F1 H1 σ1 _ hs S1 E1 G1 => ?_)⟩
  subst hs
  cases b with
  | true => rw [if_pos rfl] at G1 ⊢; exact pa g F1 H1 σ1 e1 Q S1 G1
  | false => rw [if_neg Bool.false_ne_true] at G1 ⊢; exact pb g F1 H1 σ1 e1 Q S1 G1
/-- a one-place operation on ints -/
def eNeg (fa : M D) : M D := fun env => (fa env).bind fun d e => match d with
  | .int i => .ok (.int (-i)) e
  | _ => .bad
theorem PX.neg {a : Expr} {fa : M D} {pos : Pos} (ha : PX X T W a fa) : PX X T W (.UnaryOp .USub a pos) (eNeg fa) := by
  obtain ⟨ta, qa, pa⟩ := ha.ex
  refine ⟨_, pe_un un_neg qa, fun g F H σ env Q S G => pa g F H σ env _ S (Goal.bind (fun _ h => h) G fun d e1 F1 H1 σ1 _ hs S1 E1 G1 v r => ?_)⟩
  cases d with
  | int i => cases r; exact ⟨i, rfl, G1 F1 H1 σ1 hs S1 .refl _ (.int _)⟩
  | _ => exact G1.elim

/-! ## ints -/
def onI (g : Int → Int → Option D) : D → D → Option D
  | .int i, .int j => g i j
  | _, _ => none
theorem OpD.ints {C : Int → Int → Prop} {k : Int → Int → V} {gI : Int → Int → Option D} (o : OpR X f (rI C k)) (h : ∀ i j d, gI i j = some d → C i j ∧ ∀ T F H, Rep T F H d (k i j)) : OpD X T f (onI gI) :=
  .pure o fun T F H d1 d2 v1 v2 d Q r1 r2 e q => by
    unfold onI at e
    split at e
    · have e1 := r1.int; have e2 := r2.int
      subst e1; subst e2
      obtain ⟨c, rp⟩ := h _ _ _ e
      exact ⟨_, _, rfl, rfl, c, q _ (rp T F H)⟩
    · cases e
theorem OpD.ints0 {k : Int → Int → V} {gI : Int → Int → Option D} (o : OpR X f (rI0 k)) (h : ∀ i j d, gI i j = some d → ∀ T F H, Rep T F H d (k i j)) : OpD X T f (onI gI) :=
  .pure o fun T F H d1 d2 v1 v2 d Q r1 r2 e q => by
    unfold onI at e
    split at e
    · have e1 := r1.int; have e2 := r2.int
      subst e1; subst e2
      exact ⟨_, _, rfl, rfl, q _ (h _ _ _ e T F H)⟩
    · cases e
def iAdd : D → D → Option D := onI fun i j => some (.int (i + j))
def iSub : D → D → Option D := onI fun i j => some (.int (i - j))
def iMul : D → D → Option D := onI fun i j => if i.natAbs ≤ 18446744073709551615 ∨ j.natAbs ≤ 18446744073709551615 then some (.int (i * j)) else none
def iMod : D → D → Option D := onI fun i j => if 0 < j then some (.int (i % j)) else none
def iDiv : D → D → Option D := onI fun i j => if 0 < j ∧ j < 1073741824 then some (.int (i / j)) else none
def iPow : D → D → Option D := onI fun i j => if 0 ≤ j ∧ j ≤ 1000000 ∧ i.natAbs < 2 ^ 64 then some (.int (i ^ j.toNat)) else none
def iLt : D → D → Option D := onI fun i j => some (.bl (decide (i < j)))
def iLe : D → D → Option D := onI fun i j => some (.bl (decide (i ≤ j)))
def iGt : D → D → Option D := onI fun i j => some (.bl (decide (j < i)))
def iGe : D → D → Option D := onI fun i j => some (.bl (decide (j ≤ i)))
theorem op_iAdd : OpD X T (binaryOp .Add) iAdd := .ints0 op_add fun i j d e T F H => by cases e; exact .int _
theorem op_iSub : OpD X T (binaryOp .Sub) iSub := .ints0 op_sub fun i j d e T F H => by cases e; exact .int _
theorem op_iMul : OpD X T (binaryOp .Mult) iMul := .ints op_mul fun i j d e => by
  split at e
  · cases e; exact ⟨by show (-(2 ^ 64) < i ∧ i < 2 ^ 64) ∨ (-(2 ^ 64) < j ∧ j < 2 ^ 64); omega, fun _ _ _ => .int _⟩
  · cases e
theorem op_iMod : OpD X T (binaryOp .Mod) iMod := .ints op_mod fun i j d e => by
  split at e
  · cases e; exact ⟨by assumption, fun _ _ _ => .int _⟩
  · cases e
theorem op_iDiv : OpD X T (binaryOp .FloorDiv) iDiv := .ints op_fdiv fun i j d e => by
  split at e
  · cases e; exact ⟨by assumption, fun _ _ _ => .int _⟩
  · cases e
theorem op_iPow : OpD X T (binaryOp .Pow) iPow := .ints op_pow fun i j d e => by
  split at e
  · cases e; exact ⟨by assumption, fun _ _ _ => .int _⟩
  · cases e
theorem op_iLt : OpD X T (compareOp .Lt) iLt := .ints0 op_lt fun i j d e T F H => by cases e; exact .bl _
theorem op_iLe : OpD X T (compareOp .LtE) iLe := .ints0 op_le fun i j d e T F H => by cases e; exact .bl _
theorem op_iGt : OpD X T (compareOp .Gt) iGt := .ints0 op_gt fun i j d e T F H => by cases e; exact .bl _
theorem op_iGe : OpD X T (compareOp .GtE) iGe := .ints0 op_ge fun i j d e T F H => by cases e; exact .bl _
end
end Pu
namespace Pu
open PySem PySem.Spec L2
open PyProof.Rows hiding St

/-- the size that lists and texts may have here -/
def big : Nat := 1000000
theorem big_line : big ≤ sizeLine := by rw [sizeLine_eq]; decide

/-! ## new objects -/
section
variable {T : Tx} {g : G} {F : Addr → Prop} {H : Hp} {σ : St} {env : En} {p : Addr}
theorem new_tup (S : St8 T g F H σ env) (hp : H p = none) {ds : List D} {xs : List V} (r : RepL T F H ds xs) (he : evish ds = false) : ∃ F', St8 T g F' (upd H p (.tup xs)) σ env ∧ Ext g F H F' (upd H p (.tup xs)) ∧ Rep T F' (upd H p (.tup xs)) (.tup ds) (.ref p) := by
  obtain ⟨S1, E1⟩ := S.frozen hp (.tup xs)
  exact ⟨_, S1, E1, .tup he upd_same (r.mono E1.f E1.k)⟩
theorem new_lst (S : St8 T g F H σ env) (hp : H p = none) {ds : List D} {xs : List V} (r : RepL T F H ds xs) : ∃ F', St8 T g F' (upd H p (.lst xs)) σ env ∧ Ext g F H F' (upd H p (.lst xs)) ∧ Rep T F' (upd H p (.lst xs)) (.lst ds) (.ref p) := by
  obtain ⟨S1, E1⟩ := S.frozen hp (.lst xs)
  exact ⟨_, S1, E1, .lst (.inr rfl) upd_same (r.mono E1.f E1.k)⟩
/-- what is laid loose is nobody's root -/
theorem St8.noroot (S : St8 T g F H σ env) (hp : H p = none) : ¬ Roots σ env p := fun r => by
  obtain ⟨_, o, e⟩ := S.roots r
  rw [hp] at e; cases e
theorem own_lst (S : St8 T g F H σ env) (hp : H p = none) {ds : List D} {xs : List V} (r : RepL T F H ds xs) : St8 T g F (upd H p (.lst xs)) σ env ∧ Ext g F H F (upd H p (.lst xs)) ∧ OwnR T g F (upd H p (.lst xs)) σ env (.lst ds) (.ref p) := by
  obtain ⟨S1, E1⟩ := S.loose hp (.lst xs)
  obtain ⟨n1, n2, n3, n4, n5⟩ := S.free hp
  exact ⟨S1, E1, ⟨p, rfl, n1, n2, n3, S.noroot hp, .lst upd_same (r.mono E1.f E1.k)⟩⟩
theorem own_dct (S : St8 T g F H σ env) (hp : H p = none) {ds : List (List Key × D)} {xs : List (List Key × V)} (r : RepT T F H ds xs) : St8 T g F (upd H p (.dT xs)) σ env ∧ Ext g F H F (upd H p (.dT xs)) ∧ OwnR T g F (upd H p (.dT xs)) σ env (.dct ds) (.ref p) := by
  obtain ⟨S1, E1⟩ := S.loose hp (.dT xs)
  obtain ⟨n1, n2, n3, n4, n5⟩ := S.free hp
  exact ⟨S1, E1, ⟨p, rfl, n1, n2, n3, S.noroot hp, .dct upd_same (r.mono E1.f E1.k)⟩⟩
end

/-! ## texts, tuples, lists put together -/
def sAdd : D → D → Option D
  | .str x, .str y => if x.length + y.length ≤ big then some (.str (x ++ y)) else none
  | _, _ => none
def tAddD : D → D → Option D
  | .tup x, .tup y => if x.length + y.length ≤ big ∧ evish (x ++ y) = false then some (.tup (x ++ y)) else none
  | _, _ => none
def lAdd : D → D → Option D
  | .lst x, .lst y => if x.length + y.length ≤ big then some (.lst (x ++ y)) else none
  | _, _ => none
section
variable {X : Cx} {T : Tx} {W : WX}
theorem op_sAdd : OpD X T (binaryOp .Add) sAdd := .pure op_add_str fun T F H d1 d2 v1 v2 d Q r1 r2 e q => by
  unfold sAdd at e
  split at e
  · split at e
    · have e1 := r1.str; have e2 := r2.str
      subst e1; subst e2
      obtain rfl := Option.some.inj e
      exact ⟨_, _, rfl, rfl, Nat.le_trans (by assumption) big_line, q _ (.str _)⟩
    · cases e
  · cases e
theorem op_tAdd : OpD X T (binaryOp .Add) tAddD := by
  refine ⟨_, op_catA, fun g F H σ env d1 d2 v1 v2 d Q S r1 r2 e q => ?_⟩
  unfold tAddD at e
  split at e
  · split at e
    · rename_i hl
      obtain ⟨a, xs, rfl, fa, ha, ra⟩ := r1.tup
      obtain ⟨b, ys, rfl, fb, hb, rb⟩ := r2.tup
      obtain rfl := Option.some.inj e
      refine ⟨a, b, xs, ys, rfl, rfl, .inl ha, .inl hb, ?_, fun e0 => ?_, fun n0 e0 => ?_, fun n0 n1 p hp => ?_⟩
      · rw [← ra.length, ← rb.length]; exact Nat.le_trans hl.1 big_line
      · subst e0
        cases ra
        exact q F H _ S .refl (.tup hl.2 (fb hl.2) rb)
      · subst e0
        cases rb
        have h2 := hl.2
        rw [List.append_nil] at h2 q
        exact q F H _ S .refl (.tup h2 (fa h2) ra)
      · obtain ⟨F', S', E', r'⟩ := new_tup S hp (ra.append rb) hl.2
        exact q F' _ _ S' E' r'
    · cases e
  · cases e
theorem op_lAdd : OpD X T (binaryOp .Add) lAdd := by
  refine ⟨_, op_cat, fun g F H σ env d1 d2 v1 v2 d Q S r1 r2 e q => ?_⟩
  unfold lAdd at e
  split at e
  · split at e
    · rename_i hl
      obtain ⟨a, xs, rfl, ha, ra⟩ := r1.lst
      obtain ⟨b, ys, rfl, hb, rb⟩ := r2.lst
      obtain rfl := Option.some.inj e
      refine ⟨a, b, xs, ys, rfl, rfl, ha, hb, ?_, fun p hp => ?_⟩
      · rw [← ra.length, ← rb.length]; exact Nat.le_trans hl big_line
      · obtain ⟨F', S', E', r'⟩ := new_lst S hp (ra.append rb)
        exact q F' _ _ S' E' r'
    · cases e
  · cases e
def aAdd : D → D → Option D := fun a b => (((iAdd a b).or (sAdd a b)).or (lAdd a b)).or (tAddD a b)
theorem op_aAdd : OpD X T (binaryOp .Add) aAdd := ((op_iAdd.or op_sAdd).or op_lAdd).or op_tAdd
end
@[simp] theorem aAdd_int (i j : Int) : aAdd (.int i) (.int j) = some (.int (i + j)) := rfl
@[simp] theorem aAdd_str (x y : Str) : aAdd (.str x) (.str y) = if x.length + y.length ≤ big then some (.str (x ++ y)) else none := by
  by_cases h : x.length + y.length ≤ big <;> simp [aAdd, iAdd, onI, sAdd, lAdd, tAddD, h]
@[simp] theorem aAdd_lst (x y : List D) : aAdd (.lst x) (.lst y) = if x.length + y.length ≤ big then some (.lst (x ++ y)) else none := by
  by_cases h : x.length + y.length ≤ big <;> simp [aAdd, iAdd, onI, sAdd, lAdd, tAddD, h]
@[simp] theorem aAdd_tup (x y : List D) : aAdd (.tup x) (.tup y) = if x.length + y.length ≤ big ∧ evish (x ++ y) = false then some (.tup (x ++ y)) else none := by
  by_cases h : x.length + y.length ≤ big ∧ evish (x ++ y) = false
  · simp [aAdd, iAdd, onI, sAdd, lAdd, tAddD, h]
  · rw [if_neg h]
    simp only [aAdd, iAdd, onI, sAdd, lAdd, tAddD, if_neg h, Option.none_or, Option.or_none]

/-! ## data that is compared -/
mutual
def toPy : D → Option PyData
  | .non => some .none
  | .bl b => some (.bool b)
  | .int i => some (.int i)
  | .str x => some (.str x)
  | .tup ds => (toPyL ds).map .tuple
  | .lst ds => (toPyL ds).map .list
  | _ => none
def toPyL : List D → Option (List PyData)
  | [] => some []
  | d :: ds => (toPy d).bind fun p => (toPyL ds).map fun ps => p :: ps
end
mutual
theorem Rep.dp {K : PySem.W.Frag} {T : Tx} {F : Addr → Prop} {H : Hp} : ∀ {d : D} {v : V} {p : PyData}, Rep T F H d v → toPy d = some p → Dp K H v p
  | _, _, _, .non, e => by cases e; exact .non
  | _, _, _, .bl b, e => by cases e; exact .bl b
  | _, _, _, .int b, e => by cases e; exact .int b
  | _, _, _, .str b, e => by cases e; exact .str b
  | _, _, _, .tup h1 h2 h3, e => by
    unfold toPy at e
    obtain ⟨ps, e1, e2⟩ := Option.map_eq_some_iff.mp e
    subst e2
    exact .tup (.of h2) (RepL.dp h3 e1)
  | _, _, _, .tpl h0 h1 h2 h3 h4, e => by
    unfold toPy at e
    obtain ⟨ps, e1, e2⟩ := Option.map_eq_some_iff.mp e
    subst e2
    exact .tup (.inl (.inr ⟨_, h2⟩)) (RepL.dp h4 e1)
  | _, _, _, .lst h1 h2 h3, e => by
    unfold toPy at e
    obtain ⟨ps, e1, e2⟩ := Option.map_eq_some_iff.mp e
    subst e2
    exact .lst (.of h2) (RepL.dp h3 e1)
  | _, _, _, .scr _, e => by cases e
  | _, _, _, .dct _ _ _, e => by cases e
  | _, _, _, .dck _ _ _, e => by cases e
  | _, _, _, .ins _ _ _, e => by cases e
  | _, _, _, .fn _, e => by cases e
  | _, _, _, .tp0 _ _ _, e => by cases e
theorem RepL.dp {K : PySem.W.Frag} {T : Tx} {F : Addr → Prop} {H : Hp} : ∀ {ds : List D} {vs : List V} {ps : List PyData}, RepL T F H ds vs → toPyL ds = some ps → DpAll K H vs ps
  | _, _, _, .nil, e => by cases e; exact .nil
  | _, _, _, .cons h1 h2, e => by
    unfold toPyL at e
    obtain ⟨p, e1, e2⟩ := Option.bind_eq_some_iff.mp e
    obtain ⟨ps, e3, e4⟩ := Option.map_eq_some_iff.mp e2
    subst e4
    exact .cons (Rep.dp h1 e1) (RepL.dp h2 e3)
end
theorem RepB.dp {K : PySem.W.Frag} {T : Tx} {F : Addr → Prop} {H : Hp} {d : D} {v : V} {p : PyData} (r : RepB T F H d v) (e : toPy d = some p) : Dp K H v p := by
  rcases r with r | ⟨a, ev, c⟩
  · exact r.dp e
  · subst ev
    cases c with
    | lst h1 h2 =>
      unfold toPy at e
      obtain ⟨ps, e1, e2⟩ := Option.map_eq_some_iff.mp e
      subst e2
      exact .lst (.of h1) (h2.dp e1)
    | _ => cases e
/-- equal data, by the model's own words; scalars at once -/
def eqD : D → D → Option Bool
  | .int i, .int j => some (decide (i = j))
  | .str i, .str j => some (decide (i = j))
  | .bl i, .bl j => some (decide (i = j))
  | a, b => (toPy a).bind fun p => (toPy b).bind fun q => if SeqAt.shaped p = true ∧ SeqAt.shaped q = true then some (PyData.eqv p q) else none
section
variable {X : Cx} {T : Tx}
def dEq (a b : D) : Option D := (eqD a b).map .bl
def dNe (a b : D) : Option D := (eqD a b).map fun k => .bl (!k)
theorem eqD_cases {a b : D} {k : Bool} (h : eqD a b = some k) : (∃ i j, a = .int i ∧ b = .int j ∧ k = decide (i = j)) ∨ (∃ i j, a = .str i ∧ b = .str j ∧ k = decide (i = j)) ∨ (∃ i j, a = .bl i ∧ b = .bl j ∧ k = decide (i = j)) ∨
    ∃ p q, toPy a = some p ∧ toPy b = some q ∧ SeqAt.shaped p = true ∧ SeqAt.shaped q = true ∧ k = PyData.eqv p q := by
  unfold eqD at h
  split at h
  · exact .inl ⟨_, _, rfl, rfl, (Option.some.inj h).symm⟩
  · exact .inr (.inl ⟨_, _, rfl, rfl, (Option.some.inj h).symm⟩)
  · exact .inr (.inr (.inl ⟨_, _, rfl, rfl, (Option.some.inj h).symm⟩))
  · obtain ⟨p, e1, h⟩ := Option.bind_eq_some_iff.mp h
    obtain ⟨q, e2, h⟩ := Option.bind_eq_some_iff.mp h
    split at h
    · rename_i c
      exact .inr (.inr (.inr ⟨p, q, e1, e2, c.1, c.2, (Option.some.inj h).symm⟩))
    · cases h
theorem op_dEq (hu : X.A.units + 64 < cLine) : OpD X T (compareOp .Eq) dEq := by
  refine ⟨_, (op_eq (X := X)).or (op_eqD hu), fun g F H σ env d1 d2 v1 v2 d Q S r1 r2 e q => ?_⟩
  obtain ⟨k, ek, rfl⟩ := Option.map_eq_some_iff.mp e
  rcases eqD_cases ek with ⟨i, j, rfl, rfl, rfl⟩ | ⟨i, j, rfl, rfl, rfl⟩ | ⟨i, j, rfl, rfl, rfl⟩ | ⟨p, p', h1, h2, h3, h4, rfl⟩
  · have e1 := r1.int; have e2 := r2.int
    subst e1; subst e2
    refine .inl ⟨rfl, ?_⟩
    have z : decide (V.int i = V.int j) = decide (i = j) := by simp
    rw [z]; exact q F H _ S .refl (.bl _)
  · have e1 := r1.str; have e2 := r2.str
    subst e1; subst e2
    refine .inl ⟨rfl, ?_⟩
    have z : decide (V.str i = V.str j) = decide (i = j) := by simp
    rw [z]; exact q F H _ S .refl (.bl _)
  · have e1 := r1.bl; have e2 := r2.bl
    subst e1; subst e2
    refine .inl ⟨rfl, ?_⟩
    have z : decide (V.bl i = V.bl j) = decide (i = j) := by simp
    rw [z]; exact q F H _ S .refl (.bl _)
  · exact .inr ⟨p, p', r1.dp h1, r2.dp h2, h3, h4, q F H _ S .refl (.bl _)⟩
theorem op_dNe (hu : X.A.units + 64 < cLine) : OpD X T (compareOp .NotEq) dNe := by
  refine ⟨_, (op_ne (X := X)).or (op_neD hu), fun g F H σ env d1 d2 v1 v2 d Q S r1 r2 e q => ?_⟩
  obtain ⟨k, ek, rfl⟩ := Option.map_eq_some_iff.mp e
  rcases eqD_cases ek with ⟨i, j, rfl, rfl, rfl⟩ | ⟨i, j, rfl, rfl, rfl⟩ | ⟨i, j, rfl, rfl, rfl⟩ | ⟨p, p', h1, h2, h3, h4, rfl⟩
  · have e1 := r1.int; have e2 := r2.int
    subst e1; subst e2
    refine .inl ⟨rfl, ?_⟩
    have z : decide (V.int i = V.int j) = decide (i = j) := by simp
    rw [z]; exact q F H _ S .refl (.bl _)
  · have e1 := r1.str; have e2 := r2.str
    subst e1; subst e2
    refine .inl ⟨rfl, ?_⟩
    have z : decide (V.str i = V.str j) = decide (i = j) := by simp
    rw [z]; exact q F H _ S .refl (.bl _)
  · have e1 := r1.bl; have e2 := r2.bl
    subst e1; subst e2
    refine .inl ⟨rfl, ?_⟩
    have z : decide (V.bl i = V.bl j) = decide (i = j) := by simp
    rw [z]; exact q F H _ S .refl (.bl _)
  · exact .inr ⟨p, p', r1.dp h1, r2.dp h2, h3, h4, q F H _ S .refl (.bl _)⟩
end

/-! ## keys, dicts -/
def key1 : D → Option Key
  | .int i => some (.inl i)
  | .str x => some (.inr x)
  | _ => none
def keyL : List D → Option (List Key)
  | [] => some []
  | d :: ds => (key1 d).bind fun k => (keyL ds).map fun ks => k :: ks
def keyOf : D → Option (List Key)
  | .tup ds => keyL ds
  | _ => none
theorem key1_rep {T : Tx} {F : Addr → Prop} {H : Hp} {d : D} {v : V} {k : Key} (r : Rep T F H d v) (e : key1 d = some k) : v = kV k := by
  cases r <;> first | (cases e; rfl) | (cases e)
theorem keyL_rep {T : Tx} {F : Addr → Prop} {H : Hp} : ∀ {ds : List D} {xs : List V} {ks : List Key}, RepL T F H ds xs → keyL ds = some ks → xs = ks.map kV
  | _, _, _, .nil, e => by cases e; rfl
  | _, _, _, .cons h1 h2, e => by
    unfold keyL at e
    obtain ⟨k, e1, e2⟩ := Option.bind_eq_some_iff.mp e
    obtain ⟨ks, e3, e4⟩ := Option.map_eq_some_iff.mp e2
    subst e4
    rw [List.map_cons, key1_rep h1 e1, keyL_rep h2 e3]
theorem keyL_ev : ∀ {ds : List D} {k : List Key}, keyL ds = some k → evish ds = false
  | [], _, _ => rfl
  | d :: ds, k, e => by
    unfold keyL at e
    obtain ⟨k, e1, e2⟩ := Option.bind_eq_some_iff.mp e
    have : evD d = false := by
      cases d <;> first | rfl | cases e1
    unfold evish
    rw [List.all_cons, this]
    simp
theorem keyOf_rep {T : Tx} {F : Addr → Prop} {H : Hp} {d : D} {v : V} {k : List Key} (r : RepB T F H d v) (e : keyOf d = some k) : ∃ b, v = .ref b ∧ H b = some (.tup (k.map kV)) := by
  cases d with
  | tup ds =>
    obtain ⟨a, xs, rfl, fa, ha, ra⟩ := r.tup
    exact ⟨a, rfl, by rw [fa (keyL_ev e), keyL_rep ra e]⟩
  | _ => cases e
def getT (kvs : List (List Key × D)) (k : List Key) : Option D := (kvs.find? fun p => decide (p.1 = k)).map (·.2)
def putT (kvs : List (List Key × D)) (k : List Key) (d : D) : List (List Key × D) :=
  if (kvs.any fun kv => decide (kv.1 = k)) = true then kvs.map fun kv => if kv.1 = k then (kv.1, d) else kv else kvs ++ [(k, d)]
theorem RepT.get {T : Tx} {F : Addr → Prop} {H : Hp} (k : List Key) : ∀ {ds : List (List Key × D)} {xs : List (List Key × V)}, RepT T F H ds xs → (∀ d, getT ds k = some d → ∃ v, valV xs k = some v ∧ Rep T F H d v) ∧ (getT ds k = none → valV xs k = none)
  | _, _, .nil => ⟨fun d e => (nomatch e), fun _ => rfl⟩
  | (k', d') :: ds, (_, x') :: xs, .cons h1 h2 => by
    have ih := RepT.get k h2
    by_cases c : k' = k
    · subst c
      have z : getT ((k', d') :: ds) k' = some d' := by unfold getT; rw [List.find?_cons_of_pos (by simp)]; rfl
      have z2 : valV ((k', x') :: xs) k' = some x' := valV_pos rfl
      rw [z, z2]
      exact ⟨fun d e => (Option.some.inj e) ▸ ⟨x', rfl, h1⟩, fun e => nomatch e⟩
    · have z : getT ((k', d') :: ds) k = getT ds k := by unfold getT; rw [List.find?_cons_of_neg (by simp [c])]
      have z2 : valV ((k', x') :: xs) k = valV xs k := valV_neg c
      rw [z, z2]
      exact ih
theorem RepT.any {T : Tx} {F : Addr → Prop} {H : Hp} (k : List Key) : ∀ {ds : List (List Key × D)} {xs : List (List Key × V)}, RepT T F H ds xs → (ds.any fun kv => decide (kv.1 = k)) = (xs.any fun kv => decide (kv.1 = k))
  | _, _, .nil => rfl
  | _, _, .cons h1 h2 => by rw [List.any_cons, List.any_cons, RepT.any k h2]
theorem RepT.repl {T : Tx} {F : Addr → Prop} {H : Hp} (k : List Key) {d : D} {v : V} (r : Rep T F H d v) : ∀ {ds : List (List Key × D)} {xs : List (List Key × V)}, RepT T F H ds xs → RepT T F H (ds.map fun kv => if kv.1 = k then (kv.1, d) else kv) (xs.map fun kv => if kv.1 = k then (kv.1, v) else kv)
  | _, _, .nil => .nil
  | (k', d') :: ds, (_, x') :: xs, .cons h1 h2 => by
    rw [List.map_cons, List.map_cons]
    by_cases c : k' = k
    · simp only [c, if_true]; exact .cons r (RepT.repl k r h2)
    · simp only [c, if_false]; exact .cons h1 (RepT.repl k r h2)
theorem RepT.snoc {T : Tx} {F : Addr → Prop} {H : Hp} {k : List Key} {d : D} {v : V} (r : Rep T F H d v) : ∀ {ds : List (List Key × D)} {xs : List (List Key × V)}, RepT T F H ds xs → RepT T F H (ds ++ [(k, d)]) (xs ++ [(k, v)])
  | _, _, .nil => .cons r .nil
  | _, _, .cons h1 h2 => .cons h1 (RepT.snoc r h2)
theorem RepT.put {T : Tx} {F : Addr → Prop} {H : Hp} (k : List Key) {d : D} {v : V} (r : Rep T F H d v) {ds : List (List Key × D)} {xs : List (List Key × V)} (h : RepT T F H ds xs) : RepT T F H (putT ds k d) (putK xs k v) := by
  unfold putT putK
  rw [RepT.any k h]
  split
  · exact h.repl k r
  · exact h.snoc r
/-- what a dict with keys that are tuples holds at a key -/
theorem RepB.dget {T : Tx} {F : Addr → Prop} {H : Hp} {kvs : List (List Key × D)} {d : D} {v y : V} {k : List Key} (r : RepB T F H (.dct kvs) v) (rk : RepB T F H d y) (e : keyOf d = some k) :
    ∃ a o, v = .ref a ∧ DGet H a y o ∧ (∀ z, getT kvs k = some z → ∃ u, o = some u ∧ Rep T F H z u) ∧ (getT kvs k = none → o = none) := by
  obtain ⟨a, xs, rfl, ha, ra⟩ := r.dct
  obtain ⟨b, rfl, hb⟩ := keyOf_rep rk e
  obtain ⟨i1, i2⟩ := ra.get k
  exact ⟨a, valV xs k, rfl, .inr ⟨xs, k, b, ha, rfl, hb, rfl⟩, i1, i2⟩

/-! ## in -/
/-- a sign or a text in a text; data in a list or a tuple; a key in a dict -/
def inS : D → D → Option Bool
  | .str x, .str y => match x.cps.toList with
    | [c] => some (decide (c ∈ y.cps.toList))
    | _ => some (!(Builtin.Str.occurrences y x 0 y.length 1).isEmpty)
  | _, _ => none
def seqD : D → Option (List D)
  | .lst ds => some ds
  | .tup ds => some ds
  | _ => none
def inQ (a b : D) : Option Bool := (seqD b).bind fun ds => (toPy a).bind fun p => (toPyL ds).bind fun qs => if SeqAt.shaped p = true ∧ SeqAt.shaped (.list qs) = true then some (qs.any fun z => PyData.eqv z p) else none
def inT (a b : D) : Option Bool := match b with
  | .dct kvs => (keyOf a).map fun k => (getT kvs k).isSome
  | _ => none
def inD (a b : D) : Option Bool := ((inS a b).or (inQ a b)).or (inT a b)
def dIn (a b : D) : Option D := (inD a b).map .bl
def dNotIn (a b : D) : Option D := (inD a b).map fun k => .bl (!k)
section
variable {X : Cx} {T : Tx} {W : WX}
def rInTup (K : PySem.W.Frag) (neg : Bool) : R2 := fun x y H Q => ∃ d ds, Dp K H x d ∧ Dp K H y (.tuple ds) ∧ SeqAt.shaped d = true ∧ SeqAt.shaped (.list ds) = true ∧ Q (.bl (if neg then !(ds.any fun z => PyData.eqv z d) else ds.any fun z => PyData.eqv z d)) H
theorem op_inTup (hu : X.A.units + 65 < cLine) : OpR X (compareOp .In) (rInTup X.K false) := by
  intro pins s σ H x y v u Q I rx ry h
  obtain ⟨d, ds, hd, he, sd, se, q⟩ := h
  obtain ⟨as, r1⟩ := Dp.reads I d x v hd rx
  obtain ⟨bs, r2⟩ := Dp.reads I (.tuple ds) y u he ry
  exact SeqAt.in_tuple_reads r2 r1 (SeqAt.canLay_of_shaped se) (SeqAt.canLay_of_shaped sd) (room_in_shaped sd hu) ⟨.bl _, H, I, rfl, q⟩
theorem op_notInTup (hu : X.A.units + 65 < cLine) : OpR X (compareOp .NotIn) (rInTup X.K true) := by
  intro pins s σ H x y v u Q I rx ry h
  obtain ⟨d, ds, hd, he, sd, se, q⟩ := h
  obtain ⟨as, r1⟩ := Dp.reads I d x v hd rx
  obtain ⟨bs, r2⟩ := Dp.reads I (.tuple ds) y u he ry
  exact SeqAt.notIn_tuple_reads r2 r1 (SeqAt.canLay_of_shaped se) (SeqAt.canLay_of_shaped sd) (room_in_shaped sd hu) ⟨.bl _, H, I, rfl, q⟩
def rInDct (neg : Bool) : R2 := fun y x H Q => ∃ a o, x = .ref a ∧ DGet H a y o ∧ Q (.bl (if neg then !o.isSome else o.isSome)) H
theorem op_inDct (hu : X.A.units + 1 < cLine) : OpR X (compareOp .In) (rInDct false) := by
  intro pins s σ H y x iv u Q I ry rx h
  obtain ⟨a, o, rfl, gg, q⟩ := h
  obtain rfl : u = Value.ref a := rx
  exact d_in hu I gg ry fun s3 I3 => ⟨.bl o.isSome, H, I3, rfl, q⟩
theorem op_notInDct (hu : X.A.units + 1 < cLine) : OpR X (compareOp .NotIn) (rInDct true) := by
  intro pins s σ H y x iv u Q I ry rx h
  obtain ⟨a, o, rfl, gg, q⟩ := h
  obtain rfl : u = Value.ref a := rx
  exact d_notIn hu I gg ry fun s3 I3 => ⟨.bl (!o.isSome), H, I3, rfl, q⟩
theorem op_dIn (hu : X.A.units + 65 < cLine) : OpD X T (compareOp .In) dIn := by
  refine ⟨_, (((op_in_sign (X := X)).or op_in_str).or ((op_inD hu).or (op_inTup hu))).or (op_inDct (by omega)), fun g F H σ env d1 d2 v1 v2 d Q S r1 r2 e q => ?_⟩
  obtain ⟨k, ek, rfl⟩ := Option.map_eq_some_iff.mp e
  clear e
  rename inD d1 d2 = some k => e
  unfold inD at e
  cases c1 : inS d1 d2 with
  | some k1 =>
    rw [c1] at e
    obtain rfl : k1 = k := Option.some.inj e
    unfold inS at c1
    split at c1
    · have e1 := r1.str; have e2 := r2.str
      subst e1; subst e2
      rename_i x y
      split at c1
      · rename_i c hc
        obtain rfl := Option.some.inj c1
        have ex : x = ⟨#[c]⟩ := by
          cases x; congr 1; apply Array.ext'; simpa using hc
        exact .inl (.inl (.inl ⟨c, y, by rw [ex], rfl, q F H _ S .refl (.bl _)⟩))
      · obtain rfl := Option.some.inj c1
        exact .inl (.inl (.inr ⟨x, y, rfl, rfl, q F H _ S .refl (.bl _)⟩))
    · cases c1
  | none =>
    rw [c1] at e
    cases c2 : inQ d1 d2 with
    | some k1 =>
      rw [c2] at e
      obtain rfl : k1 = k := Option.some.inj e
      unfold inQ at c2
      obtain ⟨ds, e1, c2⟩ := Option.bind_eq_some_iff.mp c2
      obtain ⟨p, e2, c2⟩ := Option.bind_eq_some_iff.mp c2
      obtain ⟨qs, e3, c2⟩ := Option.bind_eq_some_iff.mp c2
      split at c2
      · rename_i cc
        obtain rfl := Option.some.inj c2
        cases d2 with
        | lst xs => cases e1; exact .inl (.inr (.inl ⟨p, qs, r1.dp e2, r2.dp (by unfold toPy; rw [e3]; rfl), cc.1, cc.2, q F H _ S .refl (.bl _)⟩))
        | tup xs => cases e1; exact .inl (.inr (.inr ⟨p, qs, r1.dp e2, r2.dp (by unfold toPy; rw [e3]; rfl), cc.1, cc.2, q F H _ S .refl (.bl _)⟩))
        | _ => cases e1
      · cases c2
    | none =>
      rw [c2] at e
      have e : inT d1 d2 = some k := e
      unfold inT at e
      split at e
      · obtain ⟨kk, e1, rfl⟩ := Option.map_eq_some_iff.mp e
        obtain ⟨a, o, rfl, gg, i1, i2⟩ := r2.dget r1 e1
        refine .inr ⟨a, o, rfl, gg, ?_⟩
        rename_i kvs _
        have z : o.isSome = (getT kvs kk).isSome := by
          cases c3 : getT kvs kk with
          | none => rw [i2 c3]; rfl
          | some z => obtain ⟨u, eu, _⟩ := i1 z c3; rw [eu]; rfl
        rw [if_neg Bool.false_ne_true, z]
        exact q F H _ S .refl (.bl _)
      · cases e
theorem op_dNotIn (hu : X.A.units + 65 < cLine) : OpD X T (compareOp .NotIn) dNotIn := by
  refine ⟨_, (((op_notIn_sign (X := X)).or op_notin_str).or ((op_notInD hu).or (op_notInTup hu))).or (op_notInDct (by omega)), fun g F H σ env d1 d2 v1 v2 d Q S r1 r2 e q => ?_⟩
  obtain ⟨k, ek, rfl⟩ := Option.map_eq_some_iff.mp e
  clear e
  rename inD d1 d2 = some k => e
  unfold inD at e
  cases c1 : inS d1 d2 with
  | some k1 =>
    rw [c1] at e
    obtain rfl : k1 = k := Option.some.inj e
    unfold inS at c1
    split at c1
    · have e1 := r1.str; have e2 := r2.str
      subst e1; subst e2
      rename_i x y
      split at c1
      · rename_i c hc
        obtain rfl := Option.some.inj c1
        have ex : x = ⟨#[c]⟩ := by
          cases x; congr 1; apply Array.ext'; simpa using hc
        exact .inl (.inl (.inl ⟨c, y, by rw [ex], rfl, q F H _ S .refl (.bl _)⟩))
      · obtain rfl := Option.some.inj c1
        exact .inl (.inl (.inr ⟨x, y, rfl, rfl, q F H _ S .refl (.bl _)⟩))
    · cases c1
  | none =>
    rw [c1] at e
    cases c2 : inQ d1 d2 with
    | some k1 =>
      rw [c2] at e
      obtain rfl : k1 = k := Option.some.inj e
      unfold inQ at c2
      obtain ⟨ds, e1, c2⟩ := Option.bind_eq_some_iff.mp c2
      obtain ⟨p, e2, c2⟩ := Option.bind_eq_some_iff.mp c2
      obtain ⟨qs, e3, c2⟩ := Option.bind_eq_some_iff.mp c2
      split at c2
      · rename_i cc
        obtain rfl := Option.some.inj c2
        cases d2 with
        | lst xs => cases e1; exact .inl (.inr (.inl ⟨p, qs, r1.dp e2, r2.dp (by unfold toPy; rw [e3]; rfl), cc.1, cc.2, q F H _ S .refl (.bl _)⟩))
        | tup xs => cases e1; exact .inl (.inr (.inr ⟨p, qs, r1.dp e2, r2.dp (by unfold toPy; rw [e3]; rfl), cc.1, cc.2, q F H _ S .refl (.bl _)⟩))
        | _ => cases e1
      · cases c2
    | none =>
      rw [c2] at e
      have e : inT d1 d2 = some k := e
      unfold inT at e
      split at e
      · obtain ⟨kk, e1, rfl⟩ := Option.map_eq_some_iff.mp e
        obtain ⟨a, o, rfl, gg, i1, i2⟩ := r2.dget r1 e1
        refine .inr ⟨a, o, rfl, gg, ?_⟩
        rename_i kvs _
        have z : o.isSome = (getT kvs kk).isSome := by
          cases c3 : getT kvs kk with
          | none => rw [i2 c3]; rfl
          | some z => obtain ⟨u, eu, _⟩ := i1 z c3; rw [eu]; rfl
        rw [if_pos rfl, z]
        exact q F H _ S .refl (.bl _)
      · cases e
end
/-! ## is None -/
section
variable {X : Cx} {T : Tx} {W : WX}
def dIsN (a b : D) : Option D := match a, b with
  | .non, .non => some (.bl true)
  | _, .non => some (.bl false)
  | _, _ => none
def dNotN (a b : D) : Option D := match a, b with
  | .non, .non => some (.bl false)
  | _, .non => some (.bl true)
  | _, _ => none
theorem RepB.isn {T : Tx} {F : Addr → Prop} {H : Hp} {d : D} {v : V} (r : RepB T F H d v) (h : d ≠ .non) : v ≠ .non := by
  rcases r with r | ⟨a, rfl, c⟩
  · cases r <;> first | exact absurd rfl h | exact fun e => by cases e
  · exact fun e => by cases e
theorem op_dIsN : OpD X T (compareOp .Is) dIsN := .pure op_isN fun T F H d1 d2 v1 v2 d Q r1 r2 e q => by
  unfold dIsN at e
  split at e
  · have e1 := r1.non; have e2 := r2.non
    subst e1; subst e2; cases e
    exact ⟨rfl, q _ (.bl _)⟩
  · rename_i hn
    have e2 := r2.non
    subst e2; cases e
    refine ⟨rfl, ?_⟩
    rw [decide_eq_false (r1.isn (fun z => hn z))]
    exact q _ (.bl _)
  · cases e
theorem op_dNotN : OpD X T (compareOp .IsNot) dNotN := .pure op_notN fun T F H d1 d2 v1 v2 d Q r1 r2 e q => by
  unfold dNotN at e
  split at e
  · have e1 := r1.non; have e2 := r2.non
    subst e1; subst e2; cases e
    exact ⟨rfl, q _ (.bl _)⟩
  · rename_i hn
    have e2 := r2.non
    subst e2; cases e
    refine ⟨rfl, ?_⟩
    rw [decide_eq_false (r1.isn (fun z => hn z))]
    exact q _ (.bl _)
  · cases e
end
end Pu
namespace Pu
open PySem PySem.Spec L2
open PyProof.Rows hiding St

/-! ## subscripts -/
theorem RepL.at {T : Tx} {F : Addr → Prop} {H : Hp} {ds : List D} {xs : List V} {i : Int} {d : D} (r : RepL T F H ds xs) (e : atI ds i = some d) : ∃ x, atI xs i = some x ∧ Rep T F H d x := by
  unfold atI at e ⊢
  rw [← r.length]
  obtain ⟨j, e1, e2⟩ := Option.bind_eq_some_iff.mp e
  obtain ⟨x, h1, h2⟩ := r.get e2
  exact ⟨x, by rw [e1]; exact h1, h2⟩
theorem atI_map {α β : Type} (f : α → β) (xs : List α) (i : Int) : atI (xs.map f) i = (atI xs i).map f := by
  unfold atI
  rw [List.length_map]
  cases ixN xs.length i with
  | none => rfl
  | some j => simp
def ixD : D → D → Option D
  | .lst ds, .int i => atI ds i
  | .tup ds, .int i => atI ds i
  | .scr ns, .int i => (atI ns i).map .int
  | .str z, .int i => if z.length ≤ big then (atI z.cps.toList i).map fun c => .str ⟨#[c]⟩ else none
  | .dct kvs, k => (keyOf k).bind (getT kvs)
  | _, _ => none
/-- subscripts by values -/
structure IxD (X : Cx) (T : Tx) (gD : D → D → Option D) : Prop where
  ex : ∃ r : R2, IxR X r ∧ ∀ F H d1 d2 v1 v2 d Q, RepB T F H d1 v1 → RepB T F H d2 v2 → gD d1 d2 = some d → (∀ v, Rep T F H d v → Q v H) → r v1 v2 H Q
section
variable {X : Cx} {T : Tx} {W : WX}
def rIxDct : R2 := fun x y H Q => ∃ a v, x = .ref a ∧ DGet H a y (some v) ∧ Q v H
theorem ix_dct (hu : X.A.units + 1 < cLine) : IxR X rIxDct := by
  intro value slice pins s σ H x y v u Q I rx ry h hs
  obtain ⟨a, w, rfl, gg, q⟩ := h
  obtain rfl : v = Value.ref a := rx
  exact tail_any (dict_typeIs I gg) PySem.F.slot_dict_getitem.lookup (d_getItem hu I gg ry fun w' s3 I3 rw' => ⟨w, H, I3, rw', q⟩) hs
theorem ix_all (hS : ScK X.K T) (hu : X.A.units + 1 < cLine) : IxD X T ixD := by
  refine ⟨_, (ix_list (X := X)).or (ix_tup.or (ix_str.or (ix_dct hu))), fun F H d1 d2 v1 v2 d Q r1 r2 e q => ?_⟩
  unfold ixD at e
  split at e
  · obtain ⟨a, xs, rfl, ha, ra⟩ := r1.lst
    have e2 := r2.int; subst e2
    obtain ⟨x, h1, h2⟩ := ra.at e
    exact .inl ⟨a, xs, _, x, rfl, rfl, .of ha, h1, q x h2⟩
  · obtain ⟨a, xs, rfl, fa, ha, ra⟩ := r1.tup
    have e2 := r2.int; subst e2
    obtain ⟨x, h1, h2⟩ := ra.at e
    exact .inr (.inl ⟨a, xs, _, x, rfl, rfl, .inl ha, h1, q x h2⟩)
  · obtain ⟨a, rfl, ha⟩ := r1.scr hS
    have e2 := r2.int; subst e2
    obtain ⟨n, e1, rfl⟩ := Option.map_eq_some_iff.mp e
    exact .inl ⟨a, _, _, .int n, rfl, rfl, ha, by rw [atI_map, e1]; rfl, q _ (.int n)⟩
  · split at e
    · rename_i hl
      have e1 := r1.str; subst e1
      have e2 := r2.int; subst e2
      obtain ⟨c, e1, rfl⟩ := Option.map_eq_some_iff.mp e
      exact .inr (.inr (.inl ⟨_, _, c, rfl, rfl, Nat.le_trans hl big_line, e1, q _ (.str _)⟩))
    · cases e
  · rename_i kvs
    obtain ⟨k, e1, e2⟩ := Option.bind_eq_some_iff.mp e
    obtain ⟨a, o, rfl, gg, i1, i2⟩ := r1.dget r2 e1
    obtain ⟨u, rfl, ru⟩ := i1 _ e2
    exact .inr (.inr (.inr ⟨a, u, rfl, gg, q u ru⟩))
  · cases e

def slotD (env : En) (i : Nat) : Option D := match env[i]? with
  | some (.val d) => some d
  | some (.own d) => some d
  | some (.io d) => some d
  | _ => none
theorem St8.slotB {g : G} {F : Addr → Prop} {H : Hp} {σ : St} {env : En} (S : St8 T g F H σ env) {i : Nat} {d : D} (e : slotD env i = some d) : ∃ v, look σ i = some v ∧ RepB T F H d v := by
  unfold slotD at e
  split at e
  · rename_i d' e1
    obtain rfl := Option.some.inj e
    obtain ⟨x, h1, h2⟩ := (S.sl i _ e1).cases_val
    exact ⟨x, h1, .inl h2⟩
  · rename_i d' e1
    obtain rfl := Option.some.inj e
    have r := S.sl i _ e1
    cases r with | own h1 _ _ _ c => exact ⟨_, h1, .inr ⟨_, rfl, c⟩⟩
  · rename_i d' e1
    obtain rfl := Option.some.inj e
    have r := S.sl i _ e1
    cases r with | io h1 _ _ _ c => exact ⟨_, h1, .inr ⟨_, rfl, c⟩⟩
  · cases e
def eIx (fa fb : M D) : M D := fun env => (fa env).bind fun d1 e1 => (fb e1).bind fun d2 e2 => Out.of (ixD d1 d2) e2
/-- the subscript of a name: what its slot holds when the index is known -/
def eIxV (i : Nat) (fb : M D) : M D := fun env => match slotD env i with
  | none => .bad
  | some _ => (fb env).bind fun d2 e2 => Out.of ((slotD e2 i).bind fun d1 => ixD d1 d2) e2
theorem PX.ix {a b : Expr} {fa fb : M D} {pos : Pos} (hS : ScK X.K T) (hu : X.A.units + 1 < cLine) (ha : PX X T W a fa) (hb : PX X T W b fb) (hs : PlainIx b := by intro _ _; rfl) : PX X T W (.Subscript a b pos) (eIx fa fb) := by
  obtain ⟨r, o, po⟩ := (ix_all (X := X) (T := T) hS hu).ex
  obtain ⟨ta, qa, pa⟩ := ha.ex
  obtain ⟨tb, qb, pb⟩ := hb.ex
  refine ⟨_, pe_ix o qa qb hs, fun g F H σ env Q S G => ?_⟩
  refine pa g F H σ env _ S (Goal.bind (fun _ h => h) G fun d1 e1 F1 H1 σ1 _ hs S1 E1 G1 v1 r1 => ?_)
  subst hs
  refine pb g F1 H1 σ1 e1 _ S1 (Goal.bind (fun _ h => h) G1 fun d2 e2 F2 H2 σ2 _ hs S2 E2 G2 v2 r2 => ?_)
  subst hs
  cases q : ixD d1 d2 with
  | none => rw [q] at G2; exact G2.elim
  | some d =>
    rw [q] at G2
    exact po F2 H2 d1 d2 v1 v2 d Q (r1.ext E2).rb r2.rb q fun v rv => G2 F2 H2 σ2 rfl S2 .refl v rv
theorem PX.ixV (i : Nat) {x : Str} {b : Expr} {fb : M D} {p pos : Pos} (hS : ScK X.K T) (hu : X.A.units + 1 < cLine) (hb : PX X T W b fb) (hs : PlainIx b := by intro _ _; rfl) (hN : X.N[i]? = some x := by rfl) (hv : Vis X.env.scope x := by first | exact Or.inl rfl | exact Or.inr (Or.inl rfl) | exact Or.inr (Or.inr rfl)) (hd : (x == ("__debug__" : Str)) = false := by decide)
    (hcd : (x == ("__classdict__" : Str)) = false := by decide) : PX X T W (.Subscript (.Name x p) b pos) (eIxV i fb) := by
  obtain ⟨r, o, po⟩ := (ix_all (X := X) (T := T) hS hu).ex
  obtain ⟨tb, qb, pb⟩ := hb.ex
  refine ⟨_, pe_ix o (pe_var hN hv hd hcd) qb hs, fun g F H σ env Q S G => ?_⟩
  unfold eIxV at G
  cases e0 : slotD env i with
  | none => rw [e0] at G; exact G.elim
  | some d0 =>
    rw [e0] at G
    obtain ⟨v0, l0, _⟩ := S.slotB e0
    refine ⟨v0, look_eq l0, ?_⟩
    refine pb g F H σ env _ S (Goal.bind (fun _ h => h) G fun d2 e2 F2 H2 σ2 _ hs S2 E2 G2 v2 r2 => ?_)
    subst hs
    cases q1 : slotD e2 i with
    | none => rw [q1] at G2; exact G2.elim
    | some d1 =>
      rw [q1] at G2
      obtain ⟨v1, l1, r1⟩ := S2.slotB q1
      rw [l0] at l1; cases l1
      cases q : ixD d1 d2 with
      | none => simp only [Option.bind_some, q] at G2; exact G2.elim
      | some d =>
        simp only [Option.bind_some, q] at G2
        exact po F2 H2 d1 d2 _ v2 d Q r1 r2.rb q fun v rv => G2 F2 H2 σ2 rfl S2 .refl v rv

/-! ## slices -/
def cutL {α : Type} (xs : List α) (lo hi : Option Int) : List α := (xs.drop (HT.sIx xs.length 0 lo)).take (HT.sIx xs.length xs.length hi - HT.sIx xs.length 0 lo)
theorem RepL.cut {F : Addr → Prop} {H : Hp} {ds : List D} {xs : List V} (r : RepL T F H ds xs) (lo hi : Option Int) : RepL T F H (cutL ds lo hi) (cutV xs lo hi) := by
  unfold cutL cutV
  rw [r.length]
  exact (r.drop _).take _
def slD : D → Option Int → Option Int → Option D
  | .lst ds, lo, hi => some (.lst (cutL ds lo hi))
  | .tup ds, lo, hi => if evish (cutL ds lo hi) = false then some (.tup (cutL ds lo hi)) else none
  | .str z, lo, hi => if z.length ≤ big then some (.str (cutS z lo hi)) else none
  | _, _, _ => none
abbrev MO := M (Option Int)
structure PXP (X : Cx) (T : Tx) (W : WX) (e : Option Expr) (f : MO) : Prop where
  ex : ∃ t, PO X e t ∧ ∀ g F H σ env Q, St8 T g F H σ env → Goal T g W F H (· = σ) (fun _ H' _ _ o => Q o H') (f env) → t σ H Q
def pNo : MO := fun env => .ok none env
def pAt (f : M D) : MO := fun env => (f env).bind fun d e => match d with
  | .int i => .ok (some i) e
  | _ => .bad
theorem PXP.no : PXP X T W none pNo := ⟨_, po_none, fun g F H σ env Q S G => G F H σ rfl S .refl⟩
theorem PXP.at {e : Expr} {f : M D} (h : PX X T W e f) : PXP X T W (some e) (pAt f) := by
  obtain ⟨t, p, h⟩ := h.ex
  refine ⟨_, po_some p, fun g F H σ env Q S G => h g F H σ env _ S (Goal.bind (fun _ h => h) G fun d e1 F1 H1 σ1 _ hs S1 E1 G1 v r => ?_)⟩
  cases d with
  | int i => cases r; exact ⟨i, rfl, G1 F1 H1 σ1 hs S1 .refl⟩
  | _ => exact G1.elim
def eSl (fa : M D) (fl fh : MO) : M D := fun env => (fa env).bind fun d e1 => (fl e1).bind fun lo e2 => (fh e2).bind fun hi e3 => Out.of (slD d lo hi) e3
theorem PX.sl {a : Expr} {lo hi : Option Expr} {fa : M D} {fl fh : MO} {p2 pos : Pos} (ha : PX X T W a fa) (hl : PXP X T W lo fl) (hh : PXP X T W hi fh) : PX X T W (.Subscript a (.Slice lo hi none p2) pos) (eSl fa fl fh) := by
  obtain ⟨ta, qa, pa⟩ := ha.ex
  obtain ⟨tl, ql, pl⟩ := hl.ex
  obtain ⟨th, qh, ph⟩ := hh.ex
  refine ⟨_, pe_slice ((sl_list (X := X)).or (sl_str.or sl_tupA)) qa ql qh, fun g F H σ env Q S G => ?_⟩
  refine pa g F H σ env _ S (Goal.bind (fun _ h => h) G fun d e1 F1 H1 σ1 _ hs S1 E1 G1 v1 r1 => ?_)
  subst hs
  refine pl g F1 H1 σ1 e1 _ S1 (Goal.bind (fun _ h => h) G1 fun lo' e2 F2 H2 σ2 _ hs S2 E2 G2 => ?_)
  subst hs
  refine ph g F2 H2 σ2 e2 _ S2 (Goal.bind (fun _ h => h) G2 fun hi' e3 F3 H3 σ3 _ hs S3 E3 G3 => ?_)
  subst hs
  have r1 := (r1.ext E2).ext E3
  cases d with
  | lst ds =>
    obtain ⟨a, xs, rfl, ha, ra⟩ := r1.rb.lst
    refine .inl ⟨a, xs, rfl, .of ha, fun p hp => ?_⟩
    obtain ⟨F', S', E', r'⟩ := new_lst S3 hp (ra.cut lo' hi')
    exact G3 F' _ σ3 rfl S' E' _ r'
  | tup ds =>
    obtain ⟨a, xs, rfl, fa, ha, ra⟩ := r1.rb.tup
    have G3 : Goal T g W F3 H3 (· = σ3) _ (Out.of (slD (.tup ds) lo' hi') e3) := G3
    by_cases hev : evish (cutL ds lo' hi') = false
    · simp only [slD, if_pos hev, of_some] at G3
      refine .inr (.inr ⟨a, xs, rfl, .inl ha, fun hw => ?_, fun hw p hp => ?_⟩)
      · have z : cutL ds lo' hi' = ds := by
          unfold cutL
          rw [ra.length, hw.1, hw.2, List.drop_zero, Nat.sub_zero, ← ra.length, List.take_length]
        rw [z] at hev G3
        exact G3 F3 H3 σ3 rfl S3 .refl _ (.tup hev (fa hev) ra)
      · obtain ⟨F', S', E', r'⟩ := new_tup S3 hp (ra.cut lo' hi') hev
        exact G3 F' _ σ3 rfl S' E' _ r'
    · simp only [slD, if_neg hev, of_none] at G3
      exact G3.elim
  | str z =>
    cases r1
    by_cases hl : z.length ≤ big
    · refine .inr (.inl ⟨z, rfl, Nat.le_trans hl big_line, ?_⟩)
      have G3 : Goal T g W F3 H3 (· = σ3) _ (Out.of (slD (.str z) lo' hi') e3) := G3
      simp only [slD, if_pos hl, of_some] at G3
      exact G3 F3 H3 σ3 rfl S3 .refl _ (.str _)
    · have G3 : Goal T g W F3 H3 (· = σ3) _ (Out.of (slD (.str z) lo' hi') e3) := G3
      simp only [slD, if_neg hl, of_none] at G3
      exact G3.elim
  | _ => exact G3.elim
/-- xs[::-1] of a list -/
def eRev (fa : M D) : M D := fun env => (fa env).bind fun d e => match d with
  | .lst ds => .ok (.lst ds.reverse) e
  | _ => .bad
theorem PX.rev {a : Expr} {fa : M D} {k : Nat} {p1 p2 p3 pos : Pos} (ha : PXB X T W a fa) : PX X T W (.Subscript a (.Slice none none (some (.UnaryOp .USub (.Constant (.int 1) k p1) p2)) p3) pos) (eRev fa) := by
  obtain ⟨ta, qa, pa⟩ := ha.ex
  refine ⟨_, pe_revL qa, fun g F H σ env Q S G => pa g F H σ env _ S (Goal.bind (fun _ h => h) G fun d e1 F1 H1 σ1 _ hs S1 E1 G1 v1 r1 => ?_)⟩
  subst hs
  cases d with
  | lst ds =>
    obtain ⟨a, xs, rfl, ha, ra⟩ := r1.lst
    refine ⟨a, xs, rfl, .of ha, fun p hp => ?_⟩
    obtain ⟨F', S', E', r'⟩ := new_lst S1 hp ra.reverse
    exact G1 F' _ σ1 rfl S' E' _ r'
  | _ => exact G1.elim

/-! ## argument lists, displays -/
def aNil : M (List Av) := fun env => .ok [] env
def aVal (f : M D) (r : M (List Av)) : M (List Av) := fun env => (f env).bind fun d e1 => (r e1).bind fun ds e2 => .ok (.val d :: ds) e2
/-- a slot's root, handed in to be changed -/
def aSl (i : Nat) (r : M (List Av)) : M (List Av) := fun env => match env[i]? with
  | some (.own _) => (r env).bind fun ds e2 => .ok (.sl i :: ds) e2
  | some (.io _) => (r env).bind fun ds e2 => .ok (.sl i :: ds) e2
  | _ => .bad
theorem AvR.ext {g : G} {F F' : Addr → Prop} {H H' : Hp} {σ : St} {d : Av} {v : V} (r : AvR T F H σ d v) (e : Ext g F H F' H') : AvR T F' H' σ d v := by
  cases r with
  | val r => exact .val (r.ext e)
  | sl l => exact .sl l
theorem PXA.nil : PXA X T W [] aNil := ⟨_, pa_nil, fun g F H σ env Q S G => G F H σ rfl S .refl _ .nil⟩
theorem PXA.val {e : Expr} {es : List Expr} {f : M D} {r : M (List Av)} (he : PX X T W e f) (hr : PXA X T W es r) (hs : starEach (e :: es) X.env = (false, eval e X.env) :: starEach es X.env := by rfl) : PXA X T W (e :: es) (aVal f r) := by
  obtain ⟨te, qe, pe⟩ := he.ex
  obtain ⟨tr, qr, pr⟩ := hr.ex
  refine ⟨_, pa_cons qe qr hs, fun g F H σ env Q S G => pe g F H σ env _ S (Goal.bind (fun _ h => h) G fun d e1 F1 H1 σ1 _ hs S1 E1 G1 v1 r1 => ?_)⟩
  subst hs
  refine pr g F1 H1 σ1 e1 _ S1 (Goal.bind (fun _ h => h) G1 fun ds e2 F2 H2 σ2 _ hs S2 E2 G2 vs rs => ?_)
  subst hs
  exact G2 F2 H2 σ2 rfl S2 .refl _ (.cons (.val (r1.ext E2)) rs)
theorem PXA.sl (i : Nat) {x : Str} {p : Pos} {es : List Expr} {r : M (List Av)} (hr : PXA X T W es r) (hs : starEach ((Expr.Name x p) :: es) X.env = (false, eval (.Name x p) X.env) :: starEach es X.env := by rfl)
    (hN : X.N[i]? = some x := by rfl) (hv : Vis X.env.scope x := by first | exact Or.inl rfl | exact Or.inr (Or.inl rfl) | exact Or.inr (Or.inr rfl)) (hd : (x == ("__debug__" : Str)) = false := by decide)
    (hcd : (x == ("__classdict__" : Str)) = false := by decide) : PXA X T W ((.Name x p) :: es) (aSl i r) := by
  obtain ⟨tr, qr, pr⟩ := hr.ex
  refine ⟨_, pa_cons (pe_var hN hv hd hcd) qr hs, fun g F H σ env Q S G => ?_⟩
  unfold aSl at G
  have fin : ∀ a, look σ i = some (.ref a) → Goal T g W F H (· = σ) (fun F' H' σ' _ ds => ∀ vs, AvsR T F' H' σ' ds vs → Q vs H') ((r env).bind fun ds e2 => .ok (.sl i :: ds) e2) → tCons (tVar i) tr σ H Q := fun a l G => by
    refine ⟨.ref a, look_eq l, pr g F H σ env _ S (Goal.bind (fun _ h => h) G fun ds e2 F2 H2 σ2 _ hs S2 E2 G2 vs rs => ?_)⟩
    subst hs
    exact G2 F2 H2 σ2 rfl S2 .refl _ (.cons (.sl l) rs)
  cases e : env[i]? with
  | none => rw [e] at G; exact G.elim
  | some s =>
    rw [e] at G
    have r0 := S.sl i s e
    cases s with
    | own d => cases r0 with | own h _ _ _ _ => exact fin _ h G
    | io d => cases r0 with | io h _ _ _ _ => exact fin _ h G
    | _ => exact G.elim
def allVal : List Av → Option (List D)
  | [] => some []
  | .val d :: r => (allVal r).map fun ds => d :: ds
  | .sl _ :: _ => none
theorem AvsR.all {F : Addr → Prop} {H : Hp} {σ : St} : ∀ {as : List Av} {vs : List V} {ds : List D}, AvsR T F H σ as vs → allVal as = some ds → RepL T F H ds vs
  | _, _, _, .nil, e => by cases e; exact .nil
  | _, _, _, .cons (.val r) rs, e => by
    obtain ⟨ds, e1, rfl⟩ := Option.map_eq_some_iff.mp e
    exact .cons r (AvsR.all rs e1)
  | _, _, _, .cons (.sl l) rs, e => by cases e
def eTup (f : M (List Av)) : M D := fun env => (f env).bind fun as e => Out.of ((allVal as).bind fun ds => if ds.length ≤ big ∧ evish ds = false then some (.tup ds) else none) e
def eLst (f : M (List Av)) : M D := fun env => (f env).bind fun as e => Out.of ((allVal as).bind fun ds => if ds.length ≤ big then some (.lst ds) else none) e
theorem PX.tup {es : List Expr} {k : Nat} {f : M (List Av)} {pos : Pos} (h : PXA X T W es f) : PX X T W (.Tuple es k pos) (eTup f) := by
  obtain ⟨t, q, p⟩ := h.ex
  refine ⟨_, pe_tup q, fun g F H σ env Q S G => p g F H σ env _ S (Goal.bind (fun _ h => h) G fun as e1 F1 H1 σ1 _ hs S1 E1 G1 vs rs => ?_)⟩
  subst hs
  cases c : allVal as with
  | none => rw [c] at G1; exact G1.elim
  | some ds =>
    have r := rs.all c
    rw [c] at G1
    by_cases hl : ds.length ≤ big ∧ evish ds = false
    · simp only [Option.bind_some, if_pos hl] at G1
      refine ⟨by rw [← r.length]; exact Nat.le_trans hl.1 big_line, fun p hp => ?_⟩
      obtain ⟨F', S', E', r'⟩ := new_tup S1 hp r hl.2
      exact G1 F' _ σ1 rfl S' E' _ r'
    · simp only [Option.bind_some, if_neg hl] at G1
      exact G1.elim
theorem PXO.lst {es : List Expr} {f : M (List Av)} {pos : Pos} (h : PXA X T W es f) : PXO X T W (.List es pos) (eLst f) := by
  obtain ⟨t, q, p⟩ := h.ex
  refine ⟨_, pe_lst q, fun g F H σ env Q S G => p g F H σ env _ S (Goal.bind (fun _ h => h) G fun as e1 F1 H1 σ1 _ hs S1 E1 G1 vs rs => ?_)⟩
  subst hs
  cases c : allVal as with
  | none => rw [c] at G1; exact G1.elim
  | some ds =>
    have r := rs.all c
    rw [c] at G1
    by_cases hl : ds.length ≤ big
    · simp only [Option.bind_some, if_pos hl] at G1
      refine ⟨by rw [← r.length]; exact Nat.le_trans hl big_line, fun p hp => ?_⟩
      obtain ⟨S', E', r'⟩ := own_lst S1 hp r
      exact G1 F1 _ σ1 rfl S' E' _ r'
    · simp only [Option.bind_some, if_neg hl] at G1
      exact G1.elim
/-- {} whose keys are tuples -/
theorem PXO.dctNew {pos : Pos} : PXO X T W (.Dict [] [] pos) (eC (.dct [])) := by
  refine ⟨_, pe_dnewT, fun g F H σ env Q S G p hp => ?_⟩
  obtain ⟨S', E', r'⟩ := own_dct S hp (.nil (T := T) (F := F) (H := H))
  exact G F _ σ rfl S' E' _ r'
end

/-! ## built-ins called by name: one argument -/
structure CallD (X : Cx) (T : Tx) (f : Value) (gD : D → Option D) : Prop where
  ex : ∃ r, CallR X f r ∧ ∀ g F H σ env d1 v1 d Q, St8 T g F H σ env → RepB T F H d1 v1 → gD d1 = some d →
    (∀ F' H' v, St8 T g F' H' σ env → Ext g F H F' H' → Rep T F' H' d v → Q v H') → r [v1] H Q
structure CallO (X : Cx) (T : Tx) (f : Value) (gD : D → Option D) : Prop where
  ex : ∃ r, CallR X f r ∧ ∀ g F H σ env d1 v1 d Q, St8 T g F H σ env → RepB T F H d1 v1 → gD d1 = some d →
    (∀ F' H' v, St8 T g F' H' σ env → Ext g F H F' H' → OwnR T g F' H' σ env d v → Q v H') → r [v1] H Q
def eB1 (gD : D → Option D) (fa : M D) : M D := fun env => (fa env).bind fun d e => Out.of (gD d) e
section
variable {X : Cx} {T : Tx} {W : WX} {f : Value}
theorem CallD.or {g1 g2 : D → Option D} (h : CallD X T f g1) (h' : CallD X T f g2) : CallD X T f (fun a => (g1 a).or (g2 a)) := by
  obtain ⟨r, o, p⟩ := h.ex
  obtain ⟨r', o', p'⟩ := h'.ex
  refine ⟨_, o.or o', fun g F H σ env d1 v1 d Q S a e k => ?_⟩
  cases q : g1 d1 with
  | some z => rw [q] at e; obtain rfl : z = d := Option.some.inj e; exact .inl (p g F H σ env d1 v1 z Q S a q k)
  | none => rw [q] at e; exact .inr (p' g F H σ env d1 v1 d Q S a e k)
theorem CallO.or {g1 g2 : D → Option D} (h : CallO X T f g1) (h' : CallO X T f g2) : CallO X T f (fun a => (g1 a).or (g2 a)) := by
  obtain ⟨r, o, p⟩ := h.ex
  obtain ⟨r', o', p'⟩ := h'.ex
  refine ⟨_, o.or o', fun g F H σ env d1 v1 d Q S a e k => ?_⟩
  cases q : g1 d1 with
  | some z => rw [q] at e; obtain rfl : z = d := Option.some.inj e; exact .inl (p g F H σ env d1 v1 z Q S a q k)
  | none => rw [q] at e; exact .inr (p' g F H σ env d1 v1 d Q S a e k)
theorem call1_core {ta : TE} {r : List V → Hp → VK → Prop} {fa : M D} {gD : D → Option D} {R : (g : G) → RR}
    (pa : ∀ g F H σ env Q, St8 T g F H σ env → EG T g W (RepBR T) F H σ Q (fa env) → ta σ H Q)
    (po : ∀ g F H σ env d1 v1 d Q, St8 T g F H σ env → RepB T F H d1 v1 → gD d1 = some d → (∀ F' H' v, St8 T g F' H' σ env → Ext g F H F' H' → R g F' H' σ env d v → Q v H') → r [v1] H Q)
    {g : G} {F : Addr → Prop} {H : Hp} {σ : St} {env : En} {Q : VK} (S : St8 T g F H σ env) (G : EG T g W (R g) F H σ Q (eB1 gD fa env)) : tCB r (tCons ta tNil) σ H Q := by
  refine pa g F H σ env _ S (Goal.bind (fun _ h => h) G fun d e1 F1 H1 σ1 _ hs S1 E1 G1 v1 r1 => ?_)
  subst hs
  cases q : gD d with
  | none => rw [q] at G1; exact G1.elim
  | some d' => rw [q] at G1; exact po g F1 H1 σ1 e1 d v1 d' Q S1 r1 q fun F' H' v S' E' rv => G1 F' H' σ1 rfl S' E' v rv
theorem PX.b1 {id : String} {x : Str} {a : Expr} {fa : M D} {gD : D → Option D} {p pos : Pos} (hc : CallD X T (.builtin id) gD) (ha : PXB X T W a fa) (hm : X.mg x = none) (hv : bootBuiltins x = some (.builtin id)) (hg : Gl X x := by rfl) (hn : x ≠ "__name__" := by decide) (hdb : (x == ("__debug__" : Str)) = false := by decide)
    (he : starEach (a :: []) X.env = (false, eval a X.env) :: starEach [] X.env := by rfl) (hpl : (backTo pos (starEach [] X.env)).any (·.1) = false := by rfl) : PX X T W (.Call (.Name x p) [a] [] pos) (eB1 gD fa) := by
  obtain ⟨r, o, po⟩ := hc.ex
  obtain ⟨ta, qa, pa⟩ := ha.ex
  exact ⟨_, pe_callB o hg hm hv (pa_cons qa pa_nil he) hn hdb he hpl, fun g F H σ env Q S G => call1_core (R := fun _ => RepR T) pa po S G⟩
theorem PXO.b1 {id : String} {x : Str} {a : Expr} {fa : M D} {gD : D → Option D} {p pos : Pos} (hc : CallO X T (.builtin id) gD) (ha : PXB X T W a fa) (hm : X.mg x = none) (hv : bootBuiltins x = some (.builtin id)) (hg : Gl X x := by rfl) (hn : x ≠ "__name__" := by decide) (hdb : (x == ("__debug__" : Str)) = false := by decide)
    (he : starEach (a :: []) X.env = (false, eval a X.env) :: starEach [] X.env := by rfl) (hpl : (backTo pos (starEach [] X.env)).any (·.1) = false := by rfl) : PXO X T W (.Call (.Name x p) [a] [] pos) (eB1 gD fa) := by
  obtain ⟨r, o, po⟩ := hc.ex
  obtain ⟨ta, qa, pa⟩ := ha.ex
  exact ⟨_, pe_callB o hg hm hv (pa_cons qa pa_nil he) hn hdb he hpl, fun g F H σ env Q S G => call1_core (R := OwnR T) pa po S G⟩
theorem PX.y1 {id : String} {x : Str} {a : Expr} {fa : M D} {gD : D → Option D} {p pos : Pos} (hc : CallD X T (.type id) gD) (ha : PXB X T W a fa) (hm : X.mg x = none) (hv : bootBuiltins x = some (.type id)) (hg : Gl X x := by rfl) (hn : x ≠ "__name__" := by decide) (hdb : (x == ("__debug__" : Str)) = false := by decide)
    (he : starEach (a :: []) X.env = (false, eval a X.env) :: starEach [] X.env := by rfl) (hpl : (backTo pos (starEach [] X.env)).any (·.1) = false := by rfl) : PX X T W (.Call (.Name x p) [a] [] pos) (eB1 gD fa) := by
  obtain ⟨r, o, po⟩ := hc.ex
  obtain ⟨ta, qa, pa⟩ := ha.ex
  exact ⟨_, pe_callTy o hg hm hv (pa_cons qa pa_nil he) hn hdb he hpl, fun g F H σ env Q S G => call1_core (R := fun _ => RepR T) pa po S G⟩
theorem PXO.y1 {id : String} {x : Str} {a : Expr} {fa : M D} {gD : D → Option D} {p pos : Pos} (hc : CallO X T (.type id) gD) (ha : PXB X T W a fa) (hm : X.mg x = none) (hv : bootBuiltins x = some (.type id)) (hg : Gl X x := by rfl) (hn : x ≠ "__name__" := by decide) (hdb : (x == ("__debug__" : Str)) = false := by decide)
    (he : starEach (a :: []) X.env = (false, eval a X.env) :: starEach [] X.env := by rfl) (hpl : (backTo pos (starEach [] X.env)).any (·.1) = false := by rfl) : PXO X T W (.Call (.Name x p) [a] [] pos) (eB1 gD fa) := by
  obtain ⟨r, o, po⟩ := hc.ex
  obtain ⟨ta, qa, pa⟩ := ha.ex
  exact ⟨_, pe_callTy o hg hm hv (pa_cons qa pa_nil he) hn hdb he hpl, fun g F H σ env Q S G => call1_core (R := OwnR T) pa po S G⟩

/-- len -/
def lenD : D → Option D
  | .lst ds => some (.int ds.length)
  | .tup ds => some (.int ds.length)
  | .scr ns => some (.int ns.length)
  | .str z => if z.length ≤ big then some (.int z.length) else none
  | .dct _ => none
  | .tp0 => some (.int 0)
  | _ => none
theorem call_lenD' (hS : ScK X.K T) : CallD X T (.builtin "len") lenD := by
  refine ⟨_, (call_len_seq (X := X)).or call_len_str, fun g F H σ env d1 v1 d Q S r e q => ?_⟩
  unfold lenD at e
  split at e
  · obtain ⟨a, xs, rfl, ha, ra⟩ := r.lst
    obtain rfl := Option.some.inj e
    exact .inl ⟨a, xs, rfl, .inl (.of ha), q F H _ S .refl (by rw [ra.length]; exact .int _)⟩
  · obtain ⟨a, xs, rfl, fa, ha, ra⟩ := r.tup
    obtain rfl := Option.some.inj e
    exact .inl ⟨a, xs, rfl, .inr (.inl ha), q F H _ S .refl (by rw [ra.length]; exact .int _)⟩
  · obtain ⟨a, rfl, ha⟩ := r.scr hS
    obtain rfl := Option.some.inj e
    exact .inl ⟨a, _, rfl, .inl ha, q F H _ S .refl (by rw [List.length_map]; exact .int _)⟩
  · split at e
    · rename_i hl
      have e1 := r.str; subst e1
      obtain rfl := Option.some.inj e
      exact .inr ⟨_, rfl, Nat.le_trans hl big_line, q F H _ S .refl (.int _)⟩
    · cases e
  · cases e
  · obtain rfl := Option.some.inj e
    rcases r with r | ⟨_, _, c⟩
    · cases r with
      | tp0 fa ha no => exact .inl ⟨_, [], rfl, .inr (.inl (.inr ⟨_, ha⟩)), q F H _ S .refl (.int _)⟩
    · cases c
  · cases e
/-- int -/
def intD : D → Option D
  | .int i => some (.int i)
  | .bl b => some (.int (if b then 1 else 0))
  | .str z => if z.length ≤ 640 then (PySem.intText? z).map .int else none
  | _ => none
theorem call_intD : CallD X T (.type "int") intD := by
  refine ⟨_, (call_int1 (X := X)).or call_int_str, fun g F H σ env d1 v1 d Q S r e q => ?_⟩
  unfold intD at e
  split at e
  · have e1 := r.int; subst e1
    obtain rfl := Option.some.inj e
    exact .inl (.inl ⟨_, rfl, q F H _ S .refl (.int _)⟩)
  · have e1 := r.bl; subst e1
    obtain rfl := Option.some.inj e
    exact .inl (.inr ⟨_, rfl, q F H _ S .refl (.int _)⟩)
  · split at e
    · rename_i hl
      have e1 := r.str; subst e1
      obtain ⟨n, e1, rfl⟩ := Option.map_eq_some_iff.mp e
      exact .inr ⟨_, n, rfl, e1, hl, q F H _ S .refl (.int _)⟩
    · cases e
  · cases e
/-- list(..) of a list, a tuple -/
def listD : D → Option D
  | .lst ds => some (.lst ds)
  | .tup ds => some (.lst ds)
  | _ => none
theorem call_listD : CallO X T (.type "list") listD := by
  refine ⟨_, call_list_of, fun g F H σ env d1 v1 d Q S r e q => ?_⟩
  unfold listD at e
  split at e
  · obtain ⟨a, xs, rfl, ha, ra⟩ := r.lst
    obtain rfl := Option.some.inj e
    refine ⟨a, xs, rfl, .inl (.of ha), fun p hp => ?_⟩
    obtain ⟨S', E', r'⟩ := own_lst S hp ra
    exact q F _ _ S' E' r'
  · obtain ⟨a, xs, rfl, fa, ha, ra⟩ := r.tup
    obtain rfl := Option.some.inj e
    refine ⟨a, xs, rfl, .inr (.inl ha), fun p hp => ?_⟩
    obtain ⟨S', E', r'⟩ := own_lst S hp ra
    exact q F _ _ S' E' r'
  · cases e
/-- tuple(..) of a list, a tuple -/
def tupleD : D → Option D
  | .lst ds => some (.tup ds)
  | .tup ds => some (.tup ds)
  | _ => none
theorem RepB.tupR {F : Addr → Prop} {H : Hp} {ds : List D} {v : V} (r : RepB T F H (.tup ds) v) : Rep T F H (.tup ds) v := by
  rcases r with r | ⟨_, _, c⟩
  · exact r
  · cases c
theorem new_tpl {g : G} {F : Addr → Prop} {H : Hp} {σ : St} {env : En} {p : Addr} {o : Obj} (S : St8 T g F H σ env) (hp : H p = none) {ds : List D} {xs : List V} (r : RepL T F H ds xs) (ho : NoDct o) (he : evish ds = true) : ∃ F', St8 T g F' (upd H p (.frz o (.tup xs))) σ env ∧ Ext g F H F' (upd H p (.frz o (.tup xs))) ∧ Rep T F' (upd H p (.frz o (.tup xs))) (.tup ds) (.ref p) := by
  obtain ⟨S1, E1⟩ := S.frozen hp (.frz o (.tup xs))
  exact ⟨_, S1, E1, .tpl he (.inr rfl) upd_same ho (r.mono E1.f E1.k)⟩
theorem cr_tplL : CallR X (.type "tuple") (fun vs H Q => ∃ a xs, vs = [.ref a] ∧ H a = some (.lst xs) ∧ ∀ (p : Addr) (o : Obj), H p = none → NoDct o → Q (.ref p) (upd H p (.frz o (.tup xs)))) := by
  intro pins s σ H vs us Q I r h
  obtain ⟨a, xs, rfl, ha, q⟩ := h
  rw [Vals.ref1 r]
  obtain ⟨hz, its, m, rv, hlen, e⟩ := I.lstM ha
  refine PySem.call_tuple_list (items := its.toArray) ⟨_, e, rfl, _, rfl⟩ (fun h' hk => ?_) (by rw [List.size_toArray, ← hlen]; exact hz)
  have I2 := I.kept (t' := s.toks) hk
  have hn := I2.hok.fresh (Nat.le_refl _)
  exact ⟨.ref h'.objs.size, _, I2.laid (t' := s.toks) (o := .frz { cls := .type "tuple", data := .seq its.toArray } (.tup xs)) (fun b u e => Heap.get?_push_of_some _ e) (Nat.le_refl _) ⟨Heap.get?_push_size _ rfl, hz, its, rv, _, Heap.get?_push_size _ rfl, rfl, _, rfl⟩, rfl, q _ _ hn ⟨rfl, rfl⟩⟩
theorem call_tupleD : CallD X T (.type "tuple") tupleD := by
  refine ⟨_, call_tuple_of.or cr_tplL, fun g F H σ env d1 v1 d Q S r e q => ?_⟩
  unfold tupleD at e
  split at e
  · obtain ⟨a, xs, rfl, ha, ra⟩ := r.lst
    obtain rfl := Option.some.inj e
    rename_i ds
    cases he : evish ds with
    | false =>
      refine .inl ⟨a, xs, rfl, .inl ⟨.of ha, fun p hp => ?_⟩⟩
      obtain ⟨F', S', E', r'⟩ := new_tup S hp ra he
      exact q F' _ _ S' E' r'
    | true =>
      refine .inr ⟨a, xs, rfl, ha, fun p o hp ho => ?_⟩
      obtain ⟨F', S', E', r'⟩ := new_tpl S hp ra ho he
      exact q F' _ _ S' E' r'
  · have rt := r.tupR
    obtain ⟨a, xs, rfl, fa, ha, ra⟩ := r.tup
    obtain rfl := Option.some.inj e
    exact .inl ⟨a, xs, rfl, .inr ⟨.inl ha, q F H _ S .refl rt⟩⟩
  · cases e
/-- .. an empty one is known to have no dict -/
def tupleZ : D → Option D
  | .lst [] => some .tp0
  | .lst ds => some (.tup ds)
  | _ => none
theorem call_tupleZ : CallD X T (.type "tuple") tupleZ := by
  refine ⟨_, call_tuple_of.or cr_tplL, fun g F H σ env d1 v1 d Q S r e q => ?_⟩
  unfold tupleZ at e
  split at e
  · obtain ⟨a, xs, rfl, ha, ra⟩ := r.lst
    cases ra
    obtain rfl := Option.some.inj e
    refine .inr ⟨a, [], rfl, ha, fun p o hp ho => ?_⟩
    obtain ⟨S1, E1⟩ := S.frozen hp (.frz o (.tup []))
    exact q _ _ _ S1 E1 (.tp0 (.inr rfl) upd_same ho)
  · obtain ⟨a, xs, rfl, ha, ra⟩ := r.lst
    obtain rfl := Option.some.inj e
    rename_i ds _
    cases he : evish ds with
    | false =>
      refine .inl ⟨a, xs, rfl, .inl ⟨.of ha, fun p hp => ?_⟩⟩
      obtain ⟨F', S', E', r'⟩ := new_tup S hp ra he
      exact q F' _ _ S' E' r'
    | true =>
      refine .inr ⟨a, xs, rfl, ha, fun p o hp ho => ?_⟩
      obtain ⟨F', S', E', r'⟩ := new_tpl S hp ra ho he
      exact q F' _ _ S' E' r'
  · cases e
/-- all, any of a list of bools -/
def blsOf : List D → Option (List Bool)
  | [] => some []
  | .bl b :: r => (blsOf r).map fun bs => b :: bs
  | _ :: _ => none
theorem blsOf_map : ∀ bs : List Bool, blsOf (bs.map D.bl) = some bs
  | [] => rfl
  | b :: bs => by rw [List.map_cons, blsOf, blsOf_map bs]; rfl
theorem blsOf_of : ∀ {ds : List D} {bs : List Bool}, blsOf ds = some bs → ds = bs.map D.bl
  | [], bs, e => by cases e; rfl
  | .bl b :: r, bs, e => by
    unfold blsOf at e
    obtain ⟨cs, e1, rfl⟩ := Option.map_eq_some_iff.mp e
    rw [List.map_cons, blsOf_of e1]
  | .non :: _, _, e => nomatch e
  | .int _ :: _, _, e => nomatch e
  | .str _ :: _, _, e => nomatch e
  | .tup _ :: _, _, e => nomatch e
  | .lst _ :: _, _, e => nomatch e
  | .dct _ :: _, _, e => nomatch e
  | .dck _ :: _, _, e => nomatch e
  | .ins _ _ :: _, _, e => nomatch e
  | .fn _ :: _, _, e => nomatch e
  | .scr _ :: _, _, e => nomatch e
def allD : D → Option D
  | .lst ds => (blsOf ds).map fun bs => .bl (bs.all id)
  | _ => none
def anyD : D → Option D
  | .lst ds => (blsOf ds).map fun bs => .bl (bs.any id)
  | _ => none
theorem call_allD (hc : X.calm = true) : CallD X T (.builtin "all") allD := by
  refine ⟨_, cr_all hc, fun g F H σ env d1 v1 d Q S r e q => ?_⟩
  unfold allD at e
  split at e
  · obtain ⟨a, xs, rfl, ha, ra⟩ := r.lst
    obtain ⟨bs, e1, rfl⟩ := Option.map_eq_some_iff.mp e
    have e2 := blsOf_of e1
    subst e2
    have e3 := ra.bls; subst e3
    exact ⟨a, bs, rfl, .of ha, q F H _ S .refl (.bl _)⟩
  · cases e
theorem call_anyD (hc : X.calm = true) : CallD X T (.builtin "any") anyD := by
  refine ⟨_, cr_any hc, fun g F H σ env d1 v1 d Q S r e q => ?_⟩
  unfold anyD at e
  split at e
  · obtain ⟨a, xs, rfl, ha, ra⟩ := r.lst
    obtain ⟨bs, e1, rfl⟩ := Option.map_eq_some_iff.mp e
    have e2 := blsOf_of e1
    subst e2
    have e3 := ra.bls; subst e3
    exact ⟨a, bs, rfl, .of ha, q F H _ S .refl (.bl _)⟩
  · cases e
/-- a list's, a tuple's, a text's, an int's truth -/
def truD : D → Option Bool
  | .bl b => some b
  | .non => some false
  | .int i => some (i != 0)
  | .lst ds => some (!ds.isEmpty)
  | .tup ds => some (!ds.isEmpty)
  | .str z => if z.length ≤ big then some (((z.length : Nat) : Int) != 0) else none
  | _ => none
def tTru (f : M D) : M Bool := fun env => (f env).bind fun d e => Out.of (truD d) e
theorem RepL.emp {F : Addr → Prop} {H : Hp} {ds : List D} {xs : List V} (r : RepL T F H ds xs) : (!ds.isEmpty) = !xs.isEmpty := by
  cases r <;> rfl
theorem PXT.tru {e : Expr} {f : M D} (h : PXB X T W e f) (he : ∀ whole, isTrue e X.env whole = (do let v ← whole; standAt e.pos; holding [v] (truthy v)) := by intro _; rfl) : PXT X T W e (tTru f) := by
  obtain ⟨t, p, h⟩ := h.ex
  refine ⟨_, pt_truth p he, fun g F H σ env Q S G => h g F H σ env _ S (Goal.bind (fun _ h => h) G fun d e1 F1 H1 σ1 _ hs S1 E1 G1 v r => ?_)⟩
  subst hs
  cases d with
  | bl b => have e := r.bl; subst e; exact ⟨b, rfl, G1 F1 H1 σ1 rfl S1 .refl⟩
  | non => have e := r.non; subst e; exact ⟨false, rfl, G1 F1 H1 σ1 rfl S1 .refl⟩
  | int i => have e := r.int; subst e; exact ⟨_, rfl, G1 F1 H1 σ1 rfl S1 .refl⟩
  | lst ds => obtain ⟨a, xs, rfl, ha, ra⟩ := r.lst; exact ⟨_, .inl ⟨xs, .of ha, rfl⟩, by rw [← ra.emp]; exact G1 F1 H1 σ1 rfl S1 .refl⟩
  | tup ds => obtain ⟨a, xs, rfl, fa, ha, ra⟩ := r.tup; exact ⟨_, .inr (.inl ⟨xs, .inl ha, rfl⟩), by rw [← ra.emp]; exact G1 F1 H1 σ1 rfl S1 .refl⟩
  | str z =>
    have e := r.str; subst e
    by_cases hl : z.length ≤ big
    · have G1 : TGo T g W F1 H1 σ1 Q (Out.of (truD (.str z)) e1) := G1
      simp only [truD, if_pos hl, of_some] at G1
      exact ⟨_, ⟨Nat.le_trans hl big_line, rfl⟩, G1 F1 H1 σ1 rfl S1 .refl⟩
    · have G1 : TGo T g W F1 H1 σ1 Q (Out.of (truD (.str z)) e1) := G1
      simp only [truD, if_neg hl, of_none] at G1
      exact G1.elim
  | _ => exact G1.elim
end
end Pu
namespace Pu
open PySem PySem.Spec L2
open PyProof.Rows hiding St

/-! ## writing at a root -/
theorem Kp.upd {F : Addr → Prop} {H : Hp} {a : Addr} {o : HO} (n : ¬ F a) (nt : ∀ xs, H a ≠ some (.tup xs)) : Kp F H (L2.upd H a o) := .of_eq (ht := fun b xs e => by rw [upd_ne (fun z => nt xs (by rw [← z]; exact e))]; exact e) fun b u f q => by
  have nb : b ≠ a := fun z => n (by rw [← z]; exact f)
  rw [upd_ne nb]; exact q
/-- a slot whose root may be written: what stands there, and how the slot is signed again -/
def rootD (env : En) (i : Nat) : Option (D × (D → Sl)) := match env[i]? with
  | some (.own d) => some (d, .own)
  | some (.io d) => some (d, .io)
  | _ => none
section
variable {T : Tx} {g : G} {F : Addr → Prop} {H : Hp} {σ : St} {env : En}
structure AtRoot (T : Tx) (g : G) (F : Addr → Prop) (H : Hp) (σ : St) (env : En) (i : Nat) (d : D) (mk : D → Sl) (a : Addr) : Prop where
  lk : look σ i = some (.ref a)
  con : Con T F H a d
  nf : ¬ F a
  nl : ¬ g.L a
  wr : g.H0 a = none ∨ g.W i a
  hi : i < env.length
  rt : ∀ d', (mk d').rooted = true
  mkR : ∀ F' H' d', ¬ F' a → Con T F' H' a d' → SlR T g F' H' i (look σ i) (mk d')
theorem St8.atRoot (S : St8 T g F H σ env) {i : Nat} {d : D} {mk : D → Sl} (e : rootD env i = some (d, mk)) : ∃ a, AtRoot T g F H σ env i d mk a := by
  unfold rootD at e
  split at e
  · rename_i d' e1
    cases e
    have hi : i < env.length := (List.getElem?_eq_some_iff.mp e1).1
    cases S.sl i _ e1 with
    | own h f l w c => exact ⟨_, h, c, f, l, .inl w, hi, fun _ => rfl, fun F' H' d' n c => .own h n l w c⟩
  · rename_i d' e1
    cases e
    have hi : i < env.length := (List.getElem?_eq_some_iff.mp e1).1
    cases S.sl i _ e1 with
    | io h f l w c => exact ⟨_, h, c, f, l, .inr w, hi, fun _ => rfl, fun F' H' d' n c => .io h n l w c⟩
  · cases e
theorem AtRoot.inEnv {i : Nat} {d : D} {mk : D → Sl} {a : Addr} (R : AtRoot T g F H σ env i d mk a) (e : rootD env i = some (d, mk)) : ∃ s, env[i]? = some s ∧ s.rooted = true := by
  unfold rootD at e
  split at e
  · exact ⟨_, by assumption, rfl⟩
  · exact ⟨_, by assumption, rfl⟩
  · cases e
/-- the object at a root is written -/
theorem St8.mut (S : St8 T g F H σ env) {i : Nat} {d d' : D} {mk : D → Sl} {a : Addr} (e : rootD env i = some (d, mk)) (R : AtRoot T g F H σ env i d mk a) (o : HO) (c : Con T F (upd H a o) a d') :
    St8 T g F (upd H a o) σ (env.set i (mk d')) ∧ Ext g F H F (upd H a o) := by
  have kp : Kp F H (upd H a o) := .upd R.nf R.con.nt
  obtain ⟨s0, e0, hs0⟩ := R.inEnv e
  have there : ∀ b, (∃ u, H b = some u) → ∃ u, upd H a o b = some u := fun b ⟨u, q⟩ => by
    by_cases z : b = a
    · rw [z]; exact ⟨o, upd_same⟩
    · exact ⟨u, by rw [upd_ne z]; exact q⟩
  have S1 : St8 T g F (upd H a o) σ (env.set i .no) := by
    have S0 := S.drop i
    refine ⟨S0.len, fun j s q => (S0.sl j s q).grow (fun _ h => h) kp fun b eb hs => ⟨(S0.roots ⟨j, s, q, hs, eb⟩).1, fun u qu => ?_⟩, S0.dis, fun b h => there b (S0.fdom b h), S0.fnew, fun b h => there b (S0.ldom b h), fun k b h => there b (S0.wdom k b h), fun b h => there b (S0.zdom b h), fun b u h0 hw hz => ?_⟩
    · have nb : b ≠ a := fun z => by
        subst z
        by_cases ji : j = i
        · subst ji; rw [List.getElem?_set_self R.hi] at q; cases q; cases hs
        · rw [List.getElem?_set_ne (Ne.symm ji)] at q
          exact S.dis i j s0 s b (Ne.symm ji) e0 q hs0 hs R.lk eb
      rw [upd_ne nb]; exact qu
    · have nb : b ≠ a := fun z => by
        subst z
        rcases R.wr with w | w
        · rw [w] at h0; cases h0
        · exact hw i w
      rw [upd_ne nb]; exact S0.keep b u h0 hw hz
  refine ⟨?_, ⟨fun _ h => h, fun _ _ h => h, kp, fun b u hl q => by
    have nb : b ≠ a := fun z => R.nl (by rw [← z]; exact hl)
    rw [upd_ne nb]; exact q⟩⟩
  have S2 := S1.sign i (mk d') (by rw [List.length_set]; exact R.hi) (R.mkR F _ d' R.nf c) fun _ b eb j t ji q ht lj => by
    rw [List.getElem?_set_ne (Ne.symm ji)] at q
    exact S.dis i j s0 t b (Ne.symm ji) e0 q hs0 ht eb lj
  rw [List.set_set] at S2
  exact S2
end

section
variable {X : Cx} {T : Tx} {W : WX}
/-- x.append(e) -/
def sApp (i : Nat) (fe : M D) : M Fl := fun env => match rootD env i with
  | some (.lst _, _) => (fe env).bind fun d e1 => match rootD e1 i with
    | some (.lst ds, mk) => if ds.length < big then .ok .nx (e1.set i (mk (.lst (ds ++ [d])))) else .bad
    | _ => .bad
  | _ => .bad
theorem Con.getL {F : Addr → Prop} {H : Hp} {a : Addr} {ds : List D} (c : Con T F H a (.lst ds)) : ∃ xs, H a = some (.lst xs) ∧ RepL T F H ds xs := by
  cases c with | lst h r => exact ⟨_, h, r⟩
theorem Con.getT {F : Addr → Prop} {H : Hp} {a : Addr} {ds : List (List Key × D)} (c : Con T F H a (.dct ds)) : ∃ xs, H a = some (.dT xs) ∧ RepT T F H ds xs := by
  cases c with | dct h r => exact ⟨_, h, r⟩
theorem PXS.app (i : Nat) {x : Str} {e : Expr} {fe : M D} {p apos cpos pos : Pos} (he : PX X T W e fe) (hN : X.N[i]? = some x := by rfl) (hv : Vis X.env.scope x := by first | exact Or.inl rfl | exact Or.inr (Or.inl rfl) | exact Or.inr (Or.inr rfl))
    (hd : (x == ("__debug__" : Str)) = false := by decide) (hcd : (x == ("__classdict__" : Str)) = false := by decide)
    (hbase : attributeBase (.Name x p) "append" X.env (eval (.Name x p) X.env) = eval (.Name x p) X.env := by rfl)
    (hfew : ((backTo cpos (starEach (e :: []) X.env)).all (fun x => !x.1) && (backToKw cpos (keywordEach [] X.env)).all (fun x => x.1.isSome)
      && decide ((e :: []).length + ([] : List Keyword).length + (if ([] : List Keyword).isEmpty then 0 else 1) < 30)) = true := by rfl)
    (hline : (apos.endLine == cpos.line) = true := by rfl) (hs : starEach (e :: []) X.env = (false, eval e X.env) :: starEach [] X.env := by rfl) (hplain : (backTo cpos (starEach [] X.env)).any (·.1) = false := by rfl)
    (hsw : swapsWith (.Call (.Attribute (.Name x p) "append" apos) [e] [] cpos) none pos.line X.env = pure false := by rfl) :
    PXS X T W (.Expr (.Call (.Attribute (.Name x p) "append" apos) [e] [] cpos) pos) (sApp i fe) := by
  obtain ⟨te, qe, pe⟩ := he.ex
  refine ⟨_, ps_expr (pe_bm PySem.F.plainAttrs_list PySem.F.slot_list_append PySem.F.type_list_append mt_append (pe_var hN hv hd hcd) (pa_cons qe pa_nil hs) hbase hfew hline hs hplain) hsw, fun g F H σ env E S G => ?_⟩
  unfold sApp at G
  split at G
  · rename_i ds0 mk0 e0
    obtain ⟨a, R⟩ := S.atRoot e0
    obtain ⟨xs0, hx0, _⟩ := R.con.getL
    refine ⟨.ref a, look_eq R.lk, .inl ⟨rfl, xs0, .of hx0⟩, ?_⟩
    refine pe g F H σ env _ S (Goal.bind (fun _ _ => trivial) G fun d e1 F1 H1 σ1 _ hs S1 E1 G1 v r => ?_)
    subst hs
    split at G1
    · rename_i ds mk e2
      obtain ⟨b, R1⟩ := S1.atRoot e2
      have eb := R1.lk
      rw [R.lk] at eb
      cases eb
      obtain ⟨xs, hx, rx⟩ := R1.con.getL
      split at G1
      · rename_i hl
        refine ⟨a, xs, v, rfl, rfl, hx, Nat.lt_of_lt_of_le (by rw [← rx.length]; exact hl) big_line, ?_⟩
        have kp : Kp F1 H1 (upd H1 a (.lst (xs ++ [v]))) := .upd R1.nf R1.con.nt
        obtain ⟨S2, E2⟩ := S1.mut e2 R1 (.lst (xs ++ [v])) (.lst upd_same ((rx.snoc r).mono (fun _ h => h) kp))
        exact G1 F1 _ σ1 trivial S2 E2
      · exact G1.elim
    · exact G1.elim
  · exact G.elim
/-- x[i] = e -/
def setD : D → D → D → Option D
  | .lst ds, .int z, v => (ixN ds.length z).map fun j => .lst (ds.set j v)
  | .dct kvs, k, v => if kvs.length < big then (keyOf k).map fun k => .dct (putT kvs k v) else none
  | _, _, _ => none
def sSetI (i : Nat) (fi fe : M D) : M Fl := fun env => (fe env).bind fun d e1 => match rootD e1 i with
  | some _ => (fi e1).bind fun k e2 => match rootD e2 i with
    | some (o, mk) => match setD o k d with
      | some o' => .ok .nx (e2.set i (mk o'))
      | none => .bad
    | none => .bad
  | none => .bad
def rSetA : V → V → V → Hp → (Hp → Prop) → Prop := fun o i v H Q => rSetL o i v H Q ∨ rSetD o i v H Q
theorem set_all (hu : X.A.units + 1 < cLine) : PSet X rSetA := by
  intro pins s σ H o i v ov iv u Q I ro ri rv h
  rcases h with h | h
  · exact set_list pins s σ H o i v ov iv u Q I ro ri rv h
  · exact set_dict hu pins s σ H o i v ov iv u Q I ro ri rv h
theorem PXS.setI (i : Nat) {x : Str} {ix e : Expr} {fi fe : M D} {p tpos pos : Pos} (hu : X.A.units + 1 < cLine) (hi : PX X T W ix fi) (he : PX X T W e fe) (hN : X.N[i]? = some x := by rfl) (hv : Vis X.env.scope x := by first | exact Or.inl rfl | exact Or.inr (Or.inl rfl) | exact Or.inr (Or.inr rfl))
    (hd : (x == ("__debug__" : Str)) = false := by decide) (hcd : (x == ("__classdict__" : Str)) = false := by decide)
    (ha : ∀ v, assign (.Subscript (.Name x p) ix tpos) X.env v = (do
      let ov ← holding [v] (eval (.Name x p) X.env)
      let iv ← holding [v, ov] (eval ix X.env)
      standAt tpos
      holding [v, ov, iv] (setItem ov iv v)
      release [v, ov, iv] []) := by intro _; rfl) (hs : swapsWithSole [.Subscript (.Name x p) ix tpos] e pos.line X.env = pure false := by rfl) (hw : swappedStores [.Subscript (.Name x p) ix tpos] e X.env = pure none := by rfl)
    (h1 : (assignEach [.Subscript (.Name x p) ix tpos] X.env).map (·.2) = [assign (.Subscript (.Name x p) ix tpos) X.env] := by rfl) :
    PXS X T W (.Assign [.Subscript (.Name x p) ix tpos] e pos) (sSetI i fi fe) := by
  obtain ⟨te, qe, pe⟩ := he.ex
  obtain ⟨ti, qi, pi⟩ := hi.ex
  refine ⟨_, ps_asg qe (pg_sub (pe_var hN hv hd hcd) qi (set_all hu) ha) hs hw h1, fun g F H σ env E S G => ?_⟩
  refine pe g F H σ env _ S (Goal.bind (fun _ _ => trivial) G fun d e1 F1 H1 σ1 _ hs S1 E1 G1 v r => ?_)
  subst hs
  split at G1
  · rename_i p0 e0
    obtain ⟨d0, mk0⟩ := p0
    obtain ⟨a, R0⟩ := S1.atRoot e0
    refine ⟨.ref a, look_eq R0.lk, ?_⟩
    refine pi g F1 H1 σ1 e1 _ S1 (Goal.bind (fun _ _ => trivial) G1 fun k e2 F2 H2 σ2 _ hs S2 E2 G2 u ru => ?_)
    subst hs
    have r := r.ext E2
    split at G2
    · rename_i o mk e3
      obtain ⟨b, R⟩ := S2.atRoot e3
      have eb := R.lk
      rw [R0.lk] at eb
      cases eb
      split at G2
      · rename_i o' e4
        unfold setD at e4
        split at e4
        · rename_i ds z w
          obtain ⟨j, ej, rfl⟩ := Option.map_eq_some_iff.mp e4
          obtain ⟨xs, hx, rx⟩ := R.con.getL
          cases ru
          refine .inl ⟨a, xs, z, j, rfl, rfl, hx, by rw [← rx.length]; exact ej, ?_⟩
          have kp : Kp F2 H2 (upd H2 a (.lst (xs.set j v))) := .upd R.nf R.con.nt
          obtain ⟨S3, E3⟩ := S2.mut e3 R (.lst (xs.set j v)) (.lst upd_same ((rx.set j r).mono (fun _ h => h) kp))
          exact G2 F2 _ σ2 trivial S3 E3
        · rename_i kvs w1 w2
          split at e4
          · rename_i hl
            obtain ⟨kk, ek, rfl⟩ := Option.map_eq_some_iff.mp e4
            obtain ⟨xs, hx, rx⟩ := R.con.getT
            obtain ⟨b, rfl, hb⟩ := keyOf_rep ru.rb ek
            refine .inr ⟨a, _, rfl, .inr ⟨xs, kk, b, hx, rfl, hb, Nat.lt_of_lt_of_le (by rw [← rx.length]; exact hl) big_line, rfl⟩, ?_⟩
            have kp : Kp F2 H2 (upd H2 a (.dT (putK xs kk v))) := .upd R.nf R.con.nt
            obtain ⟨S3, E3⟩ := S2.mut e3 R (.dT (putK xs kk v)) (.dct upd_same ((rx.put kk r).mono (fun _ h => h) kp))
            exact G2 F2 _ σ2 trivial S3 E3
          · cases e4
        · cases e4
      · exact G2.elim
    · exact G2.elim
  · exact G1.elim

/-! ## names are stored -/
def sSet (i : Nat) (fe : M D) : M Fl := fun env => (fe env).bind fun d e1 => if i < e1.length then .ok .nx (e1.set i (.val d)) else .bad
def sSetO (i : Nat) (fe : M D) : M Fl := fun env => (fe env).bind fun d e1 => if i < e1.length then .ok .nx (e1.set i (.own d)) else .bad
theorem set_own {g : G} {F : Addr → Prop} {H : Hp} {σ : St} {env : En} {d : D} {v : V} (S : St8 T g F H σ env) (i : Nat) (hi : i < env.length) (r : OwnR T g F H σ env d v) : St8 T g F H (σ.set i (some v)) (env.set i (.own d)) := by
  obtain ⟨a, rfl, n1, n2, n3, n4, c⟩ := r.ex
  refine S.put i (some (.ref a)) (.own d) hi (.own rfl n1 n2 n3 c) fun _ b eb j t ji q ht lj => ?_
  cases eb
  exact n4 ⟨j, t, q, ht, lj⟩
theorem PXS.set (i : Nat) {x : Str} {e : Expr} {fe : M D} {pos' pos : Pos} (he : PX X T W e fe) (hN : X.N.Nodup) (hi : X.N[i]? = some x := by rfl) (hx : Loc X.env.scope x := by first | exact Or.inl rfl | exact Or.inr rfl) (hs : swapsWith e (some (.Name x pos')) pos.line X.env = pure false := by rfl)
    (hf : X.fn x = true ∨ X.env.scope.names.lookup x = some .local := by first | exact .inl rfl | exact .inr rfl | assumption) : PXS X T W (.Assign [.Name x pos'] e pos) (sSet i fe) := by
  obtain ⟨te, qe, pe⟩ := he.ex
  refine ⟨_, ps_set hN hi hx qe hs hf, fun g F H σ env E S G => pe g F H σ env _ S (Goal.bind (fun _ _ => trivial) G fun d e1 F1 H1 σ1 _ hs S1 E1 G1 v r => ?_)⟩
  subst hs
  split at G1
  · rename_i hl
    exact G1 F1 H1 _ trivial (S1.put i (some v) (.val d) hl (.val rfl r) fun z => by cases z) .refl
  · exact G1.elim
theorem PXS.setO (i : Nat) {x : Str} {e : Expr} {fe : M D} {pos' pos : Pos} (he : PXO X T W e fe) (hN : X.N.Nodup) (hi : X.N[i]? = some x := by rfl) (hx : Loc X.env.scope x := by first | exact Or.inl rfl | exact Or.inr rfl) (hs : swapsWith e (some (.Name x pos')) pos.line X.env = pure false := by rfl)
    (hf : X.fn x = true ∨ X.env.scope.names.lookup x = some .local := by first | exact .inl rfl | exact .inr rfl | assumption) : PXS X T W (.Assign [.Name x pos'] e pos) (sSetO i fe) := by
  obtain ⟨te, qe, pe⟩ := he.ex
  refine ⟨_, ps_set hN hi hx qe hs hf, fun g F H σ env E S G => pe g F H σ env _ S (Goal.bind (fun _ _ => trivial) G fun d e1 F1 H1 σ1 _ hs S1 E1 G1 v r => ?_)⟩
  subst hs
  split at G1
  · rename_i hl
    exact G1 F1 H1 _ trivial (set_own S1 i hl r) .refl
  · exact G1.elim

/-! ## targets -/
abbrev MG := D → En → Option En
structure PXG (X : Cx) (T : Tx) (tg : Expr) (f : MG) : Prop where
  ex : ∃ t, PG X tg t ∧ ∀ g F H σ env d v Q env', St8 T g F H σ env → Rep T F H d v → f d env = some env' → (∀ σ', St8 T g F H σ' env' → Q σ' H) → t v σ H Q
structure PXGs (X : Cx) (T : Tx) (tg : List Expr) (f : List D → En → Option En) : Prop where
  ex : ∃ t, PGs X tg t ∧ ∀ g F H σ env d v Q env', St8 T g F H σ env → RepL T F H d v → f d env = some env' → (∀ σ', St8 T g F H σ' env' → Q σ' H) → t v σ H Q
def gNm (i : Nat) : MG := fun d env => if i < env.length then some (env.set i (.val d)) else none
def gN0 : List D → En → Option En
  | [], env => some env
  | _ :: _, _ => none
def gNs (f : MG) (r : List D → En → Option En) : List D → En → Option En
  | d :: ds, env => (f d env).bind (r ds)
  | [], _ => none
def gTu (f : List D → En → Option En) : MG := fun d env => match d with
  | .tup ds => f ds env
  | _ => none
theorem PXG.nm (i : Nat) {x : Str} {pos : Pos} (hN : X.N.Nodup) (hi : X.N[i]? = some x := by rfl) (hx : Loc X.env.scope x := by first | exact Or.inl rfl | exact Or.inr rfl) (hf : X.fn x = true ∨ X.env.scope.names.lookup x = some .local := by first | exact .inl rfl | exact .inr rfl | assumption) : PXG X T (.Name x pos) (gNm i) := by
  refine ⟨_, pg_name hN hi hx hf, fun g F H σ env d v Q env' S r e k => ?_⟩
  unfold gNm at e
  split at e
  · rename_i hl
    cases e
    exact k _ (S.put i (some v) (.val d) hl (.val rfl r) fun z => by cases z)
  · cases e
theorem PXGs.nil : PXGs X T [] gN0 := by
  refine ⟨_, pgs_nil, fun g F H σ env d v Q env' S r e k => ?_⟩
  cases r with
  | nil => cases e; exact ⟨rfl, k σ S⟩
  | cons _ _ => cases e
theorem PXGs.cons {e : Expr} {es : List Expr} {f : MG} {r : List D → En → Option En} (h1 : PXG X T e f) (h2 : PXGs X T es r) (hs : (assignEach (e :: es) X.env).map (·.2) = assign e X.env :: (assignEach es X.env).map (·.2) := by rfl) : PXGs X T (e :: es) (gNs f r) := by
  obtain ⟨t1, q1, p1⟩ := h1.ex
  obtain ⟨t2, q2, p2⟩ := h2.ex
  refine ⟨_, pgs_cons q1 q2 hs, fun g F H σ env d v Q env' S rr e k => ?_⟩
  cases rr with
  | nil => cases e
  | cons ra rb =>
    unfold gNs at e
    obtain ⟨env1, e1, e2⟩ := Option.bind_eq_some_iff.mp e
    exact ⟨_, _, rfl, p1 g F H σ env _ _ _ env1 S ra e1 fun σ1 S1 => p2 g F H σ1 env1 _ _ _ env' S1 rb e2 k⟩
theorem PXG.tup {es : List Expr} {k : Nat} {n : Nat} {f : List D → En → Option En} {pos : Pos} (hc : X.calm = true) (h : PXGs X T es f) (hn : (assignEach es X.env).length = n := by rfl) (hst : (assignEach es X.env).findIdx? (·.1) = none := by rfl)
    (hf : ∀ ds env env', f ds env = some env' → ds.length = n := by
      intro ds env env' h
      match ds, h with
      | [_, _], _ => rfl
      | [_, _, _], _ => rfl
      | [_, _, _, _], _ => rfl) : PXG X T (.Tuple es k pos) (gTu f) := by
  obtain ⟨t, q, p⟩ := h.ex
  refine ⟨_, pg_tup hc q hn hst, fun g F H σ env d v Q env' S r e kk => ?_⟩
  unfold gTu at e
  split at e
  · rename_i ds
    obtain ⟨a, xs, rfl, fa, ha, ra⟩ := r.rb.tup
    exact ⟨a, xs, rfl, .inl ha, by rw [← ra.length]; exact hf _ _ _ e, p g F H σ env ds xs Q env' S ra e kk⟩
  · cases e
/-- target = e -/
def sUnp (f : MG) (fe : M D) : M Fl := fun env => (fe env).bind fun d e1 => match f d e1 with
  | some e2 => .ok .nx e2
  | none => .bad
theorem PXS.unp {tg e : Expr} {f : MG} {fe : M D} {pos : Pos} (he : PX X T W e fe) (hg : PXG X T tg f) (hs : swapsWithSole [tg] e pos.line X.env = pure false := by rfl) (hw : swappedStores [tg] e X.env = pure none := by rfl)
    (h1 : (assignEach [tg] X.env).map (·.2) = [assign tg X.env] := by rfl) : PXS X T W (.Assign [tg] e pos) (sUnp f fe) := by
  obtain ⟨te, qe, pe⟩ := he.ex
  obtain ⟨t, q, p⟩ := hg.ex
  refine ⟨_, ps_asg qe q hs hw h1, fun g F H σ env E S G => pe g F H σ env _ S (Goal.bind (fun _ _ => trivial) G fun d e1 F1 H1 σ1 _ hs S1 E1 G1 v r => ?_)⟩
  subst hs
  split at G1
  · rename_i e2 q2
    exact p g F1 H1 σ1 e1 d v _ e2 S1 r q2 fun σ' S' => G1 F1 H1 σ' trivial S' .refl
  · exact G1.elim

/-! ## blocks -/
def sNil : M Fl := fun env => .ok .nx env
def sSeq (f r : M Fl) : M Fl := fun env => (f env).bind fun fl e1 => match fl with
  | .nx => r e1
  | fl => .ok fl e1
theorem PXSs.nil : PXSs X T W [] sNil := ⟨_, pss_nil, fun g F H σ env E S G => G F H σ trivial S .refl⟩
theorem PXSs.one {s : Stmt} {f : M Fl} (h : PXS X T W s f) : PXSs X T W [s] f := by
  obtain ⟨t, q, p⟩ := h.ex
  exact ⟨t, pss_one q, p⟩
theorem PXSs.cons {s : Stmt} {r : List Stmt} {f fr : M Fl} (h : PXS X T W s f) (hr : PXSs X T W r fr) : PXSs X T W (s :: r) (sSeq f fr) := by
  obtain ⟨t, q, p⟩ := h.ex
  obtain ⟨t', q', p'⟩ := hr.ex
  refine ⟨_, pss_cons q q', fun g F H σ env E S G => p g F H σ env _ S (Goal.bind (fun _ h => h) G fun fl e1 F1 H1 σ1 _ hs S1 E1 G1 => ?_)⟩
  cases fl with
  | nx => exact p' g F1 H1 σ1 e1 E S1 G1
  | brk => exact G1 F1 H1 σ1 trivial S1 .refl
  | cnt => exact G1 F1 H1 σ1 trivial S1 .refl
  | ret d => exact G1 F1 H1 σ1 trivial S1 .refl
  | retO d => exact G1 F1 H1 σ1 trivial S1 .refl
def sIf (fc : M Bool) (fa fb : M Fl) : M Fl := fun env => (fc env).bind fun b e => if b = true then fa e else fb e
theorem PXS.ifS {c : Expr} {a b : List Stmt} {fc : M Bool} {fa fb : M Fl} {pos : Pos} (hc : PXT X T W c fc) (ha : PXSs X T W a fa) (hb : PXSs X T W b fb) : PXS X T W (.If c a b pos) (sIf fc fa fb) := by
  obtain ⟨tc, qc, pc⟩ := hc.ex
  obtain ⟨ta, qa, pa⟩ := ha.ex
  obtain ⟨tb, qb, pb⟩ := hb.ex
  refine ⟨_, ps_if qc qa qb, fun g F H σ env E S G => pc g F H σ env _ S (Goal.bind (fun _ _ => trivial) G fun b e1 F1 H1 σ1 _ hs S1 E1 G1 => ?_)⟩
  subst hs
  cases b with
  | true => rw [if_pos rfl] at G1 ⊢; exact pa g F1 H1 σ1 e1 E S1 G1
  | false => rw [if_neg Bool.false_ne_true] at G1 ⊢; exact pb g F1 H1 σ1 e1 E S1 G1
def sRet (fe : M D) : M Fl := fun env => (fe env).bind fun d e => .ok (.ret d) e
def sRetO (fe : M D) : M Fl := fun env => (fe env).bind fun d e => .ok (.retO d) e
theorem PXS.ret {e : Expr} {fe : M D} {pos : Pos} (he : PX X T W e fe) : PXS X T W (.Return (some e) pos) (sRet fe) := by
  obtain ⟨te, qe, pe⟩ := he.ex
  refine ⟨_, ps_ret qe, fun g F H σ env E S G => pe g F H σ env _ S (Goal.bind (fun _ _ => trivial) G fun d e1 F1 H1 σ1 _ hs S1 E1 G1 v r => ?_)⟩
  exact G1 F1 H1 σ1 trivial S1 .refl v r
theorem PXS.retE {e : Expr} {fe : M D} {pos : Pos} (he : PXO X T W e fe) : PXS X T W (.Return (some e) pos) (sRetO fe) := by
  obtain ⟨te, qe, pe⟩ := he.ex
  refine ⟨_, ps_ret qe, fun g F H σ env E S G => pe g F H σ env _ S (Goal.bind (fun _ _ => trivial) G fun d e1 F1 H1 σ1 _ hs S1 E1 G1 v r => ?_)⟩
  subst hs
  exact G1 F1 H1 σ1 trivial S1 .refl v r
/-- return x, x a new root of this body -/
def sRetV (i : Nat) : M Fl := fun env => match env[i]? with
  | some (.own d) => .ok (.retO d) (env.set i .no)
  | some (.val d) => .ok (.ret d) env
  | _ => .bad
theorem PXS.retV (i : Nat) {x : Str} {p pos : Pos} (hN : X.N[i]? = some x := by rfl) (hv : Vis X.env.scope x := by first | exact Or.inl rfl | exact Or.inr (Or.inl rfl) | exact Or.inr (Or.inr rfl))
    (hd : (x == ("__debug__" : Str)) = false := by decide) (hcd : (x == ("__classdict__" : Str)) = false := by decide) : PXS X T W (.Return (some (.Name x p)) pos) (sRetV i) := by
  refine ⟨_, ps_ret (pe_var hN hv hd hcd), fun g F H σ env E S G => ?_⟩
  unfold sRetV at G
  split at G
  · rename_i d e1
    have hi : i < env.length := (List.getElem?_eq_some_iff.mp e1).1
    cases S.sl i _ e1 with
    | own h f l w c =>
      rename_i a
      refine ⟨.ref a, look_eq h, G F H σ trivial (S.drop i) .refl _ ⟨a, rfl, f, l, w, ?_, c⟩⟩
      rintro ⟨j, t, q, ht, lj⟩
      by_cases z : j = i
      · subst z; rw [List.getElem?_set_self hi] at q; cases q; cases ht
      · rw [List.getElem?_set_ne (Ne.symm z)] at q
        exact S.dis i j _ t a (Ne.symm z) e1 q rfl ht h lj
  · rename_i d e1
    obtain ⟨x, h1, h2⟩ := (S.sl i _ e1).cases_val
    exact ⟨x, look_eq h1, G F H σ trivial S .refl x h2⟩
  · exact G.elim
/-- an expression's value is dropped -/
def sExpr (fe : M D) : M Fl := fun env => (fe env).bind fun _ e => .ok .nx e
theorem PXS.expr {e : Expr} {fe : M D} {pos : Pos} (he : PX X T W e fe) (hs : swapsWith e none pos.line X.env = pure false := by rfl) : PXS X T W (.Expr e pos) (sExpr fe) := by
  obtain ⟨te, qe, pe⟩ := he.ex
  refine ⟨_, ps_expr qe hs, fun g F H σ env E S G => pe g F H σ env _ S (Goal.bind (fun _ _ => trivial) G fun d e1 F1 H1 σ1 _ hs S1 E1 G1 v r => ?_)⟩
  subst hs
  exact G1 F1 H1 σ1 trivial S1 .refl
def sBrk : M Fl := fun env => .ok .brk env
def sCnt : M Fl := fun env => .ok .cnt env
theorem PXS.brk {pos : Pos} : PXS X T W (.Break pos) sBrk := ⟨_, ps_break, fun g F H σ env E S G => G F H σ trivial S .refl⟩
theorem PXS.cnt {pos : Pos} : PXS X T W (.Continue pos) sCnt := ⟨_, ps_continue, fun g F H σ env E S G => G F H σ trivial S .refl⟩
theorem PXS.pass {pos : Pos} : PXS X T W (.Pass pos) sNil := ⟨_, ps_pass, fun g F H σ env E S G => G F H σ trivial S .refl⟩
def sRetN : M Fl := fun env => .ok (.ret .non) env
theorem PXS.retN {pos : Pos} : PXS X T W (.Return none pos) sRetN := ⟨_, ps_retN, fun g F H σ env E S G => G F H σ trivial S .refl _ .non⟩
end
end Pu
namespace Pu
open PySem PySem.Spec L2
open PyProof.Rows hiding St

/-! ## what is walked -/
/-- J walks the data ds, whatever grows beside -/
structure Wk (T : Tx) (F1 : Addr → Prop) (H1 : Hp) (J : It) (ds : List D) : Prop where
  go : ∀ (F' : Addr → Prop) (H' : Hp) (i : Nat), (∀ a, F1 a → F' a) → Kp F1 H1 H' → i < ds.length → J.go i H'
  stop : ∀ (F' : Addr → Prop) (H' : Hp), (∀ a, F1 a → F' a) → Kp F1 H1 H' → J.stop ds.length H'
  yld : ∀ (g : G) (F' : Addr → Prop) (H' : Hp) (σ : St) (env : En) (i : Nat) (x : V) (H'' : Hp), (∀ a, F1 a → F' a) → Kp F1 H1 H' → St8 T g F' H' σ env → J.yld i H' x H'' → i < ds.length → ∃ F'' d, ds[i]? = some d ∧ St8 T g F'' H'' σ env ∧ Ext g F' H' F'' H'' ∧ Rep T F'' H'' d x
structure PXI (X : Cx) (T : Tx) (W : WX) (tg iter : Expr) (f : M (List D)) : Prop where
  ex : ∃ wi, PI X tg iter wi ∧ ∀ g F H σ env R, St8 T g F H σ env → Goal T g W F H (· = σ) (fun F1 H1 _ _ ds => ∀ J, Wk T F1 H1 J ds → R J H1) (f env) → wi σ H R
section
variable {X : Cx} {T : Tx} {W : WX} {tg : Expr}
theorem wk_list {K : PySem.W.Frag} {F : Addr → Prop} {H : Hp} {a : Addr} {xs : List V} {ds : List D} (fa : F a) (ha : H a = some (.lst xs)) (r : RepL T F H ds xs) : Wk T F H (Itl K a) ds where
  go := fun F' H' i _ k hi => by
    obtain ⟨x, hx, _⟩ := r.get (i := i) (d := ds[i]) (List.getElem?_eq_getElem hi)
    exact ⟨xs, x, .of (k.x a _ fa trivial ha), hx⟩
  stop := fun F' H' _ k => ⟨xs, .of (k.x a _ fa trivial ha), by rw [r.length]; exact Nat.le_refl _⟩
  yld := fun g F' H' σ env i x H'' hf k S y hi => by
    obtain ⟨rfl, y⟩ := y
    obtain ⟨z, hz, rz⟩ := r.get (i := i) (d := ds[i]) (List.getElem?_eq_getElem hi)
    have := y xs (.of (k.x a _ fa trivial ha))
    rw [hz] at this
    cases this
    exact ⟨F', _, List.getElem?_eq_getElem hi, S, .refl, rz.mono hf k⟩
/-- a tuple as data have it -/
def TupF (F : Addr → Prop) (H : Hp) (a : Addr) (xs : List V) : Prop := H a = some (.tup xs) ∨ ∃ o, F a ∧ H a = some (.frz o (.tup xs))
theorem TupF.kp {F : Addr → Prop} {H H' : Hp} {a : Addr} {xs : List V} (h : TupF F H a xs) (k : Kp F H H') : Rd H' a (.tup xs) := by
  rcases h with h | ⟨o, f, h⟩
  · exact .inl (k.t a _ h)
  · exact .inr ⟨o, k.x a _ f trivial h⟩
theorem Rep.tupF {T : Tx} {F : Addr → Prop} {H : Hp} {ds : List D} {v : V} (r : Rep T F H (.tup ds) v) : ∃ a xs, v = .ref a ∧ TupF F H a xs ∧ RepL T F H ds xs := by
  cases r with
  | tup h1 h2 h3 => exact ⟨_, _, rfl, .inl h2, h3⟩
  | tpl h1 h2 h3 h4 h5 => exact ⟨_, _, rfl, .inr ⟨_, h2, h3⟩, h5⟩
theorem wk_tup {K : PySem.W.Frag} {F : Addr → Prop} {H : Hp} {a : Addr} {xs : List V} {ds : List D} (ha : TupF F H a xs) (r : RepL T F H ds xs) : Wk T F H (Itt K a) ds where
  go := fun F' H' i _ k hi => by
    obtain ⟨x, hx, _⟩ := r.get (i := i) (d := ds[i]) (List.getElem?_eq_getElem hi)
    exact ⟨xs, x, .inl (ha.kp k), hx⟩
  stop := fun F' H' _ k => ⟨xs, .inl (ha.kp k), by rw [r.length]; exact Nat.le_refl _⟩
  yld := fun g F' H' σ env i x H'' hf k S y hi => by
    obtain ⟨rfl, y⟩ := y
    obtain ⟨z, hz, rz⟩ := r.get (i := i) (d := ds[i]) (List.getElem?_eq_getElem hi)
    have := y xs (.inl (ha.kp k))
    rw [hz] at this
    cases this
    exact ⟨F', _, List.getElem?_eq_getElem hi, S, .refl, rz.mono hf k⟩
def rngD (lo : Int) (n : Nat) : List D := (List.range n).map fun i => .int (lo + (i : Nat))
theorem wk_range {F : Addr → Prop} {H : Hp} (lo : Int) (n : Nat) : Wk T F H (Itr lo n) (rngD lo n) where
  go := fun F' H' i _ k hi => by simpa [rngD, Itr] using hi
  stop := fun F' H' _ k => by simp [rngD, Itr]
  yld := fun g F' H' σ env i x H'' hf k S y hi => by
    obtain ⟨rfl, rfl⟩ := y
    have hi : i < n := by simpa [rngD] using hi
    exact ⟨F', _, by unfold rngD; rw [List.getElem?_map, List.getElem?_range hi]; rfl, S, .refl, .int _⟩
def sgnD (z : Str) : List D := z.cps.toList.map fun c => .str ⟨#[c]⟩
theorem wk_str {F : Addr → Prop} {H : Hp} (z : Str) : Wk T F H (Its z) (sgnD z) where
  go := fun F' H' i _ k hi => by simpa [sgnD, Its] using hi
  stop := fun F' H' _ k => by simp [sgnD, Its]
  yld := fun g F' H' σ env i x H'' hf k S y hi => by
    obtain ⟨rfl, c, hc, rfl⟩ := y
    exact ⟨F', .str ⟨#[c]⟩, by unfold sgnD; rw [List.getElem?_map, Array.getElem?_toList, hc]; rfl, S, .refl, .str _⟩
theorem wk_scr {K : PySem.W.Frag} {F : Addr → Prop} {H : Hp} {a : Addr} {ns : List Int} (hS : ScK K T) (h : (F a ∧ ∃ o, H a = some (.frz o (.lst (ns.map V.int)))) ∨ T.sc a ns) : Wk T F H (Itl K a) (ns.map D.int) where
  go := fun F' H' i _ k hi => ⟨_, .int (ns[i]'(by simpa using hi)), h.elim (fun ⟨fa, o, ha⟩ => .inl (.inr ⟨o, k.x a _ fa trivial ha⟩)) fun h => hS a ns h H', by rw [List.getElem?_map, List.getElem?_eq_getElem (by simpa using hi)]; rfl⟩
  stop := fun F' H' _ k => ⟨_, h.elim (fun ⟨fa, o, ha⟩ => .inl (.inr ⟨o, k.x a _ fa trivial ha⟩)) fun h => hS a ns h H', by simp⟩
  yld := fun g F' H' σ env i x H'' hf k S y hi => by
    obtain ⟨rfl, y⟩ := y
    have := y _ (h.elim (fun ⟨fa, o, ha⟩ => .inl (.inr ⟨o, k.x a _ fa trivial ha⟩)) fun h => hS a ns h _)
    have hi' : i < ns.length := by simpa using hi
    rw [List.getElem?_map, List.getElem?_eq_getElem hi'] at this
    cases this
    exact ⟨F', .int ns[i], by rw [List.getElem?_map, List.getElem?_eq_getElem hi']; rfl, S, .refl, .int _⟩

/-- a list, a tuple, a text, the script -/
def itemsD : D → Option (List D)
  | .lst ds => some ds
  | .tup ds => some ds
  | .str z => some (sgnD z)
  | .scr ns => some (ns.map .int)
  | .tp0 => some []
  | _ => none
def iAny (fe : M D) : M (List D) := fun env => (fe env).bind fun d e => Out.of (itemsD d) e
/-- a reading in which the choice is made behind the evaluation -/
theorem pi_or3 {X : Cx} {tg e : Expr} {te : TE} (he : PE X e te) : PI X tg e (fun σ H R => te σ H fun v H1 => (∃ a, v = .ref a ∧ (∃ xs, SqL X.K H1 a xs) ∧ R (Itl X.K a) H1) ∨ (∃ a, v = .ref a ∧ (∃ xs, SqT X.K H1 a xs) ∧ R (Itt X.K a) H1) ∨ ∃ x, v = .str x ∧ R (Its x) H1) := by
  refine ⟨fun pins s σ H R I h => ?_⟩
  refine thn (he.run pins s σ H _ I h) fun v s1 ⟨x, H1, I1, r1, q1⟩ => ?_
  -- each of the three: the library's rule for a value that is known, over a reading that is this value
  have one : ∀ (u : Value), RelV x u → wpAny (model X.prog X.w) X.A (pyIter u) (PIE X pins σ tg R) X.xe s1 := fun u ru => by
    rcases q1 with ⟨a, rfl, ⟨xs, hq⟩, q⟩ | ⟨a, rfl, ⟨xs, hq⟩, q⟩ | ⟨z, rfl, q⟩
    · cases ru
      obtain ⟨its, rv, p, hz⟩ := I1.list hq
      refine wpAny_pyIter_list p.isList ?_
      refine ⟨s1.heap.objs.size, [s1.heap.objs.size], _, _, H1, rfl, I1.kept (t' := s1.toks) fun b o e => Heap.get?_push_of_some _ e, turn_list a _, ⟨_, Heap.get?_push_size _ rfl, rfl, rfl⟩, fun b hb => ?_, q⟩
      obtain rfl : b = s1.heap.objs.size := by simpa using hb
      exact I1.fpOk (Nat.le_refl _) (I1.hok.fresh (Nat.le_refl _))
    · cases ru
      obtain ⟨its, rv, p, hz⟩ := I1.tuple hq
      refine wpAny_pyIter_tuple (show s1.heap.IsTuple a its.toArray from p) ?_
      refine ⟨s1.heap.objs.size, [s1.heap.objs.size], _, _, H1, rfl, I1.kept (t' := s1.toks) fun b o e => Heap.get?_push_of_some _ e, turn_tuple a _, ⟨_, Heap.get?_push_size _ rfl, rfl, rfl⟩, fun b hb => ?_, q⟩
      obtain rfl : b = s1.heap.objs.size := by simpa using hb
      exact I1.fpOk (Nat.le_refl _) (I1.hok.fresh (Nat.le_refl _))
    · obtain ⟨t, rfl⟩ := ru
      cases ha : z.cps.all (· < 128)
      · exact wpAny_pyIter_wide ha (L2.pi_one (tk := s1.toks) I1 _ (turn_str _ z t "str_iterator" (.inr rfl)) ⟨_, Heap.get?_push_size _ rfl, rfl, rfl⟩ q)
      · exact wpAny_pyIter_ascii ha (L2.pi_one (tk := s1.toks) I1 _ (turn_str _ z t "str_ascii_iterator" (.inl rfl)) ⟨_, Heap.get?_push_size _ rfl, rfl, rfl⟩ q)
  exact one v r1
theorem PXI.any {e : Expr} {fe : M D} (hS : ScK X.K T) (he : PX X T W e fe) : PXI X T W tg e (iAny fe) := by
  obtain ⟨te, qe, pe⟩ := he.ex
  refine ⟨_, pi_or3 qe, fun g F H σ env R S G => pe g F H σ env _ S (Goal.bind (fun _ h => h) G fun d e1 F1 H1 σ1 _ hs S1 E1 G1 v r => ?_)⟩
  subst hs
  cases d with
  | lst ds =>
    cases r with
    | lst fa ha ra => exact .inl ⟨_, rfl, ⟨_, .of ha⟩, G1 F1 H1 σ1 rfl S1 .refl _ (wk_list fa ha ra)⟩
  | tup ds =>
    obtain ⟨a, xs, rfl, ha, ra⟩ := r.tupF
    exact .inr (.inl ⟨_, rfl, ⟨_, .inl (ha.kp .refl)⟩, G1 F1 H1 σ1 rfl S1 .refl _ (wk_tup ha ra)⟩)
  | str z => cases r; exact .inr (.inr ⟨z, rfl, G1 F1 H1 σ1 rfl S1 .refl _ (wk_str z)⟩)
  | scr ns =>
    cases r with
    | scr h => exact .inl ⟨_, rfl, ⟨_, h.elim (fun ⟨fa, o, ha⟩ => .inl (.inr ⟨o, ha⟩)) fun h => hS _ _ h _⟩, G1 F1 H1 σ1 rfl S1 .refl _ (wk_scr hS h)⟩
  | tp0 =>
    cases r with
    | tp0 fa ha no => exact .inr (.inl ⟨_, rfl, ⟨_, .inl (.inr ⟨_, ha⟩)⟩, G1 F1 H1 σ1 rfl S1 .refl _ (wk_tup (.inr ⟨_, fa, ha⟩) .nil)⟩)
  | _ => exact G1.elim
/-- range(b), range(a, b) -/
def inR (i : Int) : Bool := decide (i.natAbs ≤ 4611686018427387903)
theorem inR_iff {i : Int} (h : inR i = true) : -(2 ^ 62) ≤ i ∧ i < 2 ^ 62 := by
  have := of_decide_eq_true h
  omega
def rng1D : D → Option (List D)
  | .int j => if inR j = true then some (rngD 0 j.toNat) else none
  | _ => none
def rng2D : D → D → Option (List D)
  | .int i, .int j => if inR i = true ∧ inR j = true then some (rngD i (j - i).toNat) else none
  | _, _ => none
def iR1 (fe : M D) : M (List D) := fun env => (fe env).bind fun d e => Out.of (rng1D d) e
def iR2 (fa fb : M D) : M (List D) := fun env => (fa env).bind fun d e => (fb e).bind fun d2 e2 => Out.of (rng2D d d2) e2
theorem PXI.r1 {a : Expr} {fa : M D} {p pos : Pos} (ha : PX X T W a fa) (hm : X.mg "range" = none) (hg : Gl X "range" := by rfl) (hs : starEach [a] X.env = [(false, eval a X.env)] := by rfl) : PXI X T W tg (.Call (.Name "range" p) [a] [] pos) (iR1 fa) := by
  obtain ⟨ta, qa, pa⟩ := ha.ex
  refine ⟨_, pi_range1 hg hm (pa_cons qa pa_nil hs) hs, fun g F H σ env R S G => pa g F H σ env _ S (Goal.bind (fun _ h => h) G fun d e1 F1 H1 σ1 _ hs S1 E1 G1 v r => ?_)⟩
  subst hs
  cases d with
  | int j =>
    cases r
    by_cases c : inR j = true
    · simp only [rng1D, if_pos c, of_some] at G1
      exact ⟨j, rfl, (inR_iff c).1, (inR_iff c).2, G1 F1 H1 σ1 rfl S1 .refl _ (wk_range 0 _)⟩
    · simp only [rng1D, if_neg c, of_none] at G1
      exact G1.elim
  | _ => exact G1.elim
theorem PXI.r2 {a b : Expr} {fa fb : M D} {p pos : Pos} (ha : PX X T W a fa) (hb : PX X T W b fb) (hm : X.mg "range" = none) (hg : Gl X "range" := by rfl) (hs : starEach [a, b] X.env = [(false, eval a X.env), (false, eval b X.env)] := by rfl) (hs2 : starEach [b] X.env = [(false, eval b X.env)] := by rfl) :
    PXI X T W tg (.Call (.Name "range" p) [a, b] [] pos) (iR2 fa fb) := by
  obtain ⟨ta, qa, pa⟩ := ha.ex
  obtain ⟨tb, qb, pb⟩ := hb.ex
  refine ⟨_, pi_range2 hg hm (pa_cons qa (pa_cons qb pa_nil hs2) (by rw [hs, hs2])) hs hs2, fun g F H σ env R S G => pa g F H σ env _ S (Goal.bind (fun _ h => h) G fun d e1 F1 H1 σ1 _ hs S1 E1 G1 v r => ?_)⟩
  subst hs
  refine pb g F1 H1 σ1 e1 _ S1 (Goal.bind (fun _ h => h) G1 fun d2 e2 F2 H2 σ2 _ hs S2 E2 G2 v2 r2 => ?_)
  subst hs
  cases d with
  | int i =>
    cases d2 with
    | int j =>
      cases r
      cases r2
      by_cases c : inR i = true ∧ inR j = true
      · simp only [rng2D, if_pos c, of_some] at G2
        exact ⟨i, j, rfl, ⟨(inR_iff c.1).1, (inR_iff c.1).2, (inR_iff c.2).1, (inR_iff c.2).2⟩, G2 F2 H2 σ2 rfl S2 .refl _ (wk_range i _)⟩
      · simp only [rng2D, if_neg c, of_none] at G2
        exact G2.elim
    | _ => exact G2.elim
  | _ => cases d2 <;> exact G2.elim

/-! ## for -/
def forL (tg : MG) (body : M Fl) : List D → En → Out Fl
  | [], e => .ok .nx e
  | d :: ds, e => match tg d e with
    | none => .bad
    | some e1 => (body e1).bind fun fl e2 => match fl with
      | .nx => forL tg body ds e2
      | .cnt => forL tg body ds e2
      | .brk => .ok .nx e2
      | .ret d => .ok (.ret d) e2
      | .retO d => .ok (.retO d) e2
def sFor (tg : MG) (fi : M (List D)) (body : M Fl) : M Fl := fun env => (fi env).bind fun ds e1 => forL tg body ds e1
theorem PXS.forS {iter : Expr} {body : List Stmt} {ft : MG} {fi : M (List D)} {fb : M Fl} {pos : Pos} (hp : PassesOwn (model X.prog X.w) X.A X.env X.xe) (hc : X.calm = true) (hi : PXI X T W tg iter fi) (ht : PXG X T tg ft) (hb : PXSs X T W body fb)
    (hs : ∀ x, foldedSetIterable iter X.env x = pure x := by intro _; rfl) : PXS X T W (.For tg iter body [] pos) (sFor ft fi fb) := by
  obtain ⟨wi, qi, pi⟩ := hi.ex
  obtain ⟨tt, qt, pt⟩ := ht.ex
  obtain ⟨tb, qb, pb⟩ := hb.ex
  refine ⟨_, ps_for hp hc qi qt qb hs, fun g F H σ env E S G => pi g F H σ env _ S (Goal.bind (fun _ _ => trivial) G fun ds e1 F1 H1 σ1 _ hs S1 E1 G1 J wk => ?_)⟩
  subst hs
  refine ⟨fun i m σ' H' => m = ds.length - i ∧ i ≤ ds.length ∧ ∃ F' env', St8 T g F' H' σ' env' ∧ Ext g F1 H1 F' H' ∧ SGo T g W F' H' E (forL ft fb (ds.drop i) env'), ⟨ds.length, by simp, Nat.zero_le _, F1, e1, S1, .refl, G1⟩, ?_⟩
  rintro i m σ' H' ⟨rfl, hi, F', env', S', E', G'⟩
  by_cases hlt : i < ds.length
  · refine .inr ⟨wk.go F' H' i E'.f E'.k hlt, fun σ2 H2 => ∃ m', m' < ds.length - i ∧ (m' = ds.length - (i + 1) ∧ i + 1 ≤ ds.length ∧ ∃ F2 env2, St8 T g F2 H2 σ2 env2 ∧ Ext g F1 H1 F2 H2 ∧ SGo T g W F2 H2 E (forL ft fb (ds.drop (i + 1)) env2)), fun _ _ z => z, fun x H2 y => ?_⟩
    obtain ⟨F2, d, hd, S2, E2, r2⟩ := wk.yld g F' H' σ' env' i x H2 E'.f E'.k S' y hlt
    have ed : ds.drop i = d :: ds.drop (i + 1) := by
      rw [List.getElem?_eq_getElem hlt] at hd
      rw [List.drop_eq_getElem_cons hlt, Option.some.inj hd]
    rw [ed] at G'
    have G' : SGo T g W F' H' E (forL ft fb (d :: ds.drop (i + 1)) env') := G'
    unfold forL at G'
    cases et : ft d env' with
    | none => simp only [et] at G'; exact G'.elim
    | some e2 =>
      simp only [et] at G'
      refine pt g F2 H2 σ' env' d x _ e2 S2 r2 et fun σ3 S3 => ?_
      refine pb g F2 H2 σ3 e2 _ S3 (Goal.bind (fun _ h => h) (Goal.ext G' E2) fun fl e3 F3 H3 σ4 _ _ S4 E4 G4 => ?_)
      have step : SGo T g W F3 H3 E (forL ft fb (ds.drop (i + 1)) e3) → ∃ m', m' < ds.length - i ∧ (m' = ds.length - (i + 1) ∧ i + 1 ≤ ds.length ∧ ∃ F2 env2, St8 T g F2 H3 σ4 env2 ∧ Ext g F1 H1 F2 H3 ∧ SGo T g W F2 H3 E (forL ft fb (ds.drop (i + 1)) env2)) := fun q =>
        ⟨_, by omega, rfl, hlt, F3, e3, S4, (E'.trans E2).trans E4, q⟩
      cases fl with
      | nx => exact step G4
      | cnt => exact step G4
      | brk => exact G4 F3 H3 σ4 trivial S4 .refl
      | ret d => exact G4 F3 H3 σ4 trivial S4 .refl
      | retO d => exact G4 F3 H3 σ4 trivial S4 .refl
  · have e : i = ds.length := by omega
    subst e
    rw [List.drop_length] at G'
    exact .inl ⟨wk.stop F' H' E'.f E'.k, G' F' H' σ' trivial S' .refl⟩

/-! ## while: as many turns as the first number -/
def whL (fc : M Bool) (fb : M Fl) : Nat → En → Out Fl
  | 0, _ => .bad
  | n + 1, e => (fc e).bind fun b e1 => if b = true then (fb e1).bind fun fl e2 => match fl with
      | .nx => whL fc fb n e2
      | .cnt => whL fc fb n e2
      | .brk => .ok .nx e2
      | .ret d => .ok (.ret d) e2
      | .retO d => .ok (.retO d) e2
    else .ok .nx e1
def sWhl (n : Nat) (fc : M Bool) (fb : M Fl) : M Fl := whL fc fb n
theorem PXS.whl (n : Nat) {c : Expr} {body : List Stmt} {fc : M Bool} {fb : M Fl} {pos : Pos} (hp : PassesOwn (model X.prog X.w) X.A X.env X.xe) (hc : PXT X T W c fc) (hb : PXSs X T W body fb) : PXS X T W (.While c body [] pos) (sWhl n fc fb) := by
  obtain ⟨tc, qc, pc⟩ := hc.ex
  obtain ⟨tb, qb, pb⟩ := hb.ex
  refine ⟨_, ps_while hp qc qb, fun g F H σ env E S G => ?_⟩
  refine ⟨fun m σ' H' => ∃ F' env', St8 T g F' H' σ' env' ∧ Ext g F H F' H' ∧ SGo T g W F' H' E (whL fc fb m env'), ⟨n, F, env, S, .refl, G⟩, ?_⟩
  rintro m σ' H' ⟨F', env', S', E', G'⟩
  cases m with
  | zero => exact G'.elim
  | succ m =>
    have G' : SGo T g W F' H' E (whL fc fb (m + 1) env') := G'
    unfold whL at G'
    refine pc g F' H' σ' env' _ S' (Goal.bind (fun _ _ => trivial) G' fun b e1 F1 H1 σ1 _ hs S1 E1 G1 => ?_)
    subst hs
    cases b with
    | true =>
      rw [if_pos rfl] at G1 ⊢
      refine ⟨fun σ2 H2 => ∃ F2 env2, St8 T g F2 H2 σ2 env2 ∧ Ext g F H F2 H2 ∧ SGo T g W F2 H2 E (whL fc fb m env2), fun σ2 H2 z => ⟨m, Nat.lt_succ_self m, z⟩, ?_⟩
      refine pb g F1 H1 σ1 e1 _ S1 (Goal.bind (fun _ h => h) G1 fun fl e2 F2 H2 σ2 _ _ S2 E2 G2 => ?_)
      cases fl with
      | nx => exact ⟨F2, e2, S2, (E'.trans E1).trans E2, G2⟩
      | cnt => exact ⟨F2, e2, S2, (E'.trans E1).trans E2, G2⟩
      | brk => exact G2 F2 H2 σ2 trivial S2 .refl
      | ret d => exact G2 F2 H2 σ2 trivial S2 .refl
      | retO d => exact G2 F2 H2 σ2 trivial S2 .refl
    | false =>
      rw [if_neg Bool.false_ne_true] at G1 ⊢
      exact G1 F1 H1 σ1 trivial S1 .refl

/-! ## comprehensions -/
def wipeE (env : En) : List Nat → En
  | [] => env
  | v :: vs => (wipeE env vs).set v .no
def Out.nox {α : Type} : Out α → Out α
  | .exc _ _ => .bad
  | o => o
def lcL (tg : MG) (tst : M Bool) (elt : M D) (vs : List Nat) : List D → List D → En → Out D
  | [], acc, e => .ok (.lst acc) e
  | d :: ds, acc, e => match tg d e with
    | none => .bad
    | some e1 => (tst e1).nox.bind fun b e2 => if b = true then (elt e2).nox.bind fun y e3 => if acc.length < big then lcL tg tst elt vs ds (acc ++ [y]) (wipeE e3 vs) else .bad else lcL tg tst elt vs ds acc (wipeE e2 vs)
def eLc (tg : MG) (fi : M (List D)) (tst : M Bool) (elt : M D) (vs : List Nat) : M D := fun env => (fi env).bind fun ds e1 => lcL tg tst elt vs ds [] (wipeE e1 vs)
def tYs : M Bool := fun env => .ok true env
structure PXTs (X : Cx) (T : Tx) (W : WX) (e : List Expr) (f : M Bool) : Prop where
  ex : ∃ t, PTs X e t ∧ ∀ g F H σ env Q, St8 T g F H σ env → TGo T g W F H σ Q (f env) → t σ H Q
theorem PXTs.nil : PXTs X T W [] tYs := ⟨_, pts_nil, fun g F H σ env Q S G => G F H σ rfl S .refl⟩
theorem PXTs.one {c : Expr} {f : M Bool} (h : PXT X T W c f) : PXTs X T W [c] f := by
  obtain ⟨t, q, p⟩ := h.ex
  exact ⟨t, pts_one q, p⟩
theorem look_wipe {σ : St} {i : Nat} : ∀ {vs : List Nat}, look (wipe σ vs) i = if i ∈ vs then none else look σ i
  | [] => by simp [wipe]
  | v :: vs => by
    unfold wipe
    by_cases h : v = i
    · subst h
      rw [if_pos List.mem_cons_self]
      unfold look
      by_cases hl : v < (wipe σ vs).length
      · rw [List.getElem?_set_self hl]; rfl
      · rw [List.getElem?_eq_none (by simpa using hl)]; rfl
    · have e : look ((wipe σ vs).set v none) i = look (wipe σ vs) i := by unfold look; rw [List.getElem?_set_ne h]
      rw [e, look_wipe (vs := vs)]
      by_cases hi : i ∈ vs
      · rw [if_pos hi, if_pos (List.mem_cons_of_mem _ hi)]
      · rw [if_neg hi, if_neg (by simp [hi, Ne.symm h])]
theorem wipeE_len (env : En) : ∀ vs : List Nat, (wipeE env vs).length = env.length
  | [] => rfl
  | v :: vs => by unfold wipeE; rw [List.length_set, wipeE_len env vs]
theorem wipeE_get {env : En} {i : Nat} {s : Sl} : ∀ {vs : List Nat}, (wipeE env vs)[i]? = some s → (i ∈ vs ∧ s = .no) ∨ (i ∉ vs ∧ env[i]? = some s)
  | [], h => .inr ⟨by simp, h⟩
  | v :: vs, h => by
    unfold wipeE at h
    by_cases e : v = i
    · subst e
      by_cases hl : v < (wipeE env vs).length
      · rw [List.getElem?_set_self hl] at h; exact .inl ⟨List.mem_cons_self, (Option.some.inj h).symm⟩
      · rw [List.getElem?_eq_none (by simpa using hl)] at h; cases h
    · rw [List.getElem?_set_ne e] at h
      rcases wipeE_get h with ⟨a, b⟩ | ⟨a, b⟩
      · exact .inl ⟨List.mem_cons_of_mem _ a, b⟩
      · exact .inr ⟨by simp [a, Ne.symm e], b⟩
/-- the block's own names are forgotten, in the environment and in the slots -/
theorem St8.wiped {g : G} {F : Addr → Prop} {H : Hp} {σ σ2 : St} {env : En} (S : St8 T g F H σ env) (vs : List Nat) (h : ∀ i, i ∉ vs → look σ2 i = look σ i) (hl : σ2.length = σ.length) : St8 T g F H σ2 (wipeE env vs) := by
  refine ⟨by rw [wipeE_len, hl]; exact S.len, fun i s e => ?_, fun i j s s' a ij e e' hs hs' li => ?_, S.fdom, S.fnew, S.ldom, S.wdom, S.zdom, S.keep⟩
  · rcases wipeE_get e with ⟨a, rfl⟩ | ⟨a, b⟩
    · exact .no
    · rw [h i a]; exact S.sl i s b
  · rcases wipeE_get e with ⟨a, rfl⟩ | ⟨a, b⟩
    · cases hs
    · rcases wipeE_get e' with ⟨a', rfl⟩ | ⟨a', b'⟩
      · cases hs'
      · rw [h i a] at li
        rw [h j a']
        exact S.dis i j s s' _ ij b b' hs hs' li
/-- .. with one more locked object -/
def G.lock (g : G) (p : Addr) : G := { g with L := fun a => g.L a ∨ a = p }
theorem St8.lock {g : G} {F : Addr → Prop} {H : Hp} {σ : St} {env : En} (S : St8 T g F H σ env) {p : Addr} (hp : ∃ o, H p = some o) (nr : ¬ Roots σ env p) : St8 T (g.lock p) F H σ env := by
  refine ⟨S.len, fun i s e => ?_, S.dis, S.fdom, S.fnew, fun a h => ?_, S.wdom, S.zdom, S.keep⟩
  · cases S.sl i s e with
    | no => exact .no
    | hd h r => exact .hd h r
    | val h1 h2 => exact .val h1 h2
    | own h f l w c => exact .own h f (fun z => z.elim l fun z => nr ⟨i, _, e, rfl, z ▸ h⟩) w c
    | io h f l w c => exact .io h f (fun z => z.elim l fun z => nr ⟨i, _, e, rfl, z ▸ h⟩) w c
  · rcases h with h | h
    · exact S.ldom a h
    · rw [h]; exact hp
theorem St8.unlock {g : G} {F : Addr → Prop} {H : Hp} {σ : St} {env : En} {p : Addr} (S : St8 T (g.lock p) F H σ env) : St8 T g F H σ env := by
  refine ⟨S.len, fun i s e => ?_, S.dis, S.fdom, S.fnew, fun a h => S.ldom a (.inl h), S.wdom, S.zdom, S.keep⟩
  cases S.sl i s e with
  | no => exact .no
  | hd h r => exact .hd h r
  | val h1 h2 => exact .val h1 h2
  | own h f l w c => exact .own h f (fun z => l (.inl z)) w c
  | io h f l w c => exact .io h f (fun z => l (.inl z)) w c
theorem Ext.unlock {g : G} {F F' : Addr → Prop} {H H' : Hp} {p : Addr} (E : Ext (g.lock p) F H F' H') : Ext g F H F' H' := ⟨E.f, fun a h => E.l a (.inl h), E.k, fun a o h => E.lk a o (.inl h)⟩
/-- an object that nobody holds is written -/
theorem St8.poke {g : G} {F : Addr → Prop} {H : Hp} {σ : St} {env : En} (S : St8 T g F H σ env) {p : Addr} (hp : ∃ o, H p = some o) (nt : ∀ xs, H p ≠ some (.tup xs)) (nf : ¬ F p) (nl : ¬ g.L p) (n0 : g.H0 p = none) (nr : ¬ Roots σ env p) (o : HO) : St8 T g F (upd H p o) σ env ∧ Ext g F H F (upd H p o) := by
  have kp : Kp F H (upd H p o) := .upd nf nt
  have there : ∀ b, (∃ u, H b = some u) → ∃ u, upd H p o b = some u := fun b ⟨u, q⟩ => by
    by_cases z : b = p
    · rw [z]; exact ⟨o, upd_same⟩
    · exact ⟨u, by rw [upd_ne z]; exact q⟩
  refine ⟨⟨S.len, fun i s e => (S.sl i s e).grow (fun _ h => h) kp fun a ea hs => ⟨(S.roots ⟨i, s, e, hs, ea⟩).1, fun u q => ?_⟩, S.dis, fun b h => there b (S.fdom b h), S.fnew, fun b h => there b (S.ldom b h), fun k b h => there b (S.wdom k b h), fun b h => there b (S.zdom b h), fun b u h0 hw hz => ?_⟩,
    ⟨fun _ h => h, fun _ _ h => h, kp, fun b u hl q => ?_⟩⟩
  · have nb : a ≠ p := fun z => nr ⟨i, s, e, hs, z ▸ ea⟩
    rw [upd_ne nb]; exact q
  · have nb : b ≠ p := fun z => by rw [z, n0] at h0; cases h0
    rw [upd_ne nb]; exact S.keep b u h0 hw hz
  · have nb : b ≠ p := fun z => nl (z ▸ hl)
    rw [upd_ne nb]; exact q
abbrev W0 : WX := fun _ _ _ _ => False
theorem goal_nox {α : Type} {g : G} {F : Addr → Prop} {H : Hp} {Sg : St → Prop} {P : (Addr → Prop) → Hp → St → En → α → Prop} {o : Out α} (G : Goal T g W F H Sg P o.nox) : Goal T g W0 F H Sg P o := by
  cases o with
  | ok a e => exact G
  | exc x e => exact G.elim
  | bad => exact G
theorem wipe_get (σ : St) (i : Nat) : ∀ vs : List Nat, (wipe σ vs)[i]? = if i ∈ vs ∧ i < σ.length then some none else σ[i]?
  | [] => by simp [wipe]
  | v :: vs => by
    unfold wipe
    by_cases h : v = i
    · subst h
      by_cases hl : v < σ.length
      · rw [List.getElem?_set_self (by rw [wipe_length]; exact hl), if_pos ⟨List.mem_cons_self, hl⟩]
      · rw [List.getElem?_eq_none (by rw [List.length_set, wipe_length]; omega), if_neg (fun z => hl z.2), List.getElem?_eq_none (by omega)]
    · rw [List.getElem?_set_ne h, wipe_get σ i vs]
      by_cases c : i ∈ vs ∧ i < σ.length
      · rw [if_pos c, if_pos ⟨List.mem_cons_of_mem _ c.1, c.2⟩]
      · rw [if_neg c, if_neg]
        rintro ⟨a, b⟩
        rcases List.mem_cons.mp a with e | e
        · exact h e.symm
        · exact c ⟨e, b⟩
theorem wipe_idem (σ : St) (vs : List Nat) : wipe (wipe σ vs) vs = wipe σ vs := by
  apply List.ext_getElem?
  intro i
  rw [wipe_get, wipe_get, wipe_length]
  split <;> rfl
theorem wipe_wipe (σ : St) (vs : List Nat) : ∀ i, i ∉ vs → look (wipe σ vs) i = look σ i := fun i h => by rw [look_wipe, if_neg h]
/-- what a comprehension's reading comes to -/
theorem lc_core' {wi : TI} {gt : TG} {tt : TT} {te : TE} {vs : List Nat} {ft : MG} {fi : M (List D)} {ftst : M Bool} {felt : M D}
    (pi : ∀ g F H σ env R, St8 T g F H σ env → Goal T g W F H (· = σ) (fun F1 H1 _ _ ds => ∀ J, Wk T F1 H1 J ds → R J H1) (fi env) → wi σ H R)
    (pt : ∀ g F H σ env d v Q env', St8 T g F H σ env → Rep T F H d v → ft d env = some env' → (∀ σ', St8 T g F H σ' env' → (∀ i, i ∉ vs → look σ' i = look σ i) → wipe σ' vs = wipe σ vs → Q σ' H) → gt v σ H Q)
    (ptst : ∀ g F H σ env Q, St8 T g F H σ env → TGo T g W0 F H σ Q (ftst env) → tt σ H Q)
    (pelt : ∀ g F H σ env Q, St8 T g F H σ env → EG T g W0 (RepR T) F H σ Q (felt env) → te σ H Q)
    {g : G} {F : Addr → Prop} {H : Hp} {σ : St} {env : En} {Q : VK} (S : St8 T g F H σ env) (G : EG T g W (OwnR T g) F H σ Q (eLc ft fi ftst felt vs env)) : tLc wi gt tt te vs σ H Q := by
  refine pi g F H σ env _ S (Goal.bind (fun _ h => h) G fun ds e1 F1 H1 σ1 _ hs S1 E1 G1 J wk p hp => ?_)
  subst hs
  have SW := S1.wiped (σ2 := wipe σ1 vs) vs (wipe_wipe σ1 vs) (wipe_length σ1 vs)
  obtain ⟨SL, EL⟩ := SW.loose hp (.lst [])
  obtain ⟨n1, n2, n3, n4, n5⟩ := SW.free hp
  have nr := SW.noroot hp
  -- the invariant: behind i items the new list holds acc
  refine ⟨fun i m H' => m = ds.length - i ∧ i ≤ ds.length ∧ ∃ F' env' acc xs, St8 T (g.lock p) F' H' (wipe σ1 vs) env' ∧ Ext g F1 H1 F' H' ∧ ¬ F' p ∧ H' p = some (.lst xs) ∧ RepL T F' H' acc xs ∧ (∀ i ∈ vs, ∀ s, env'[i]? = some s → s = .no) ∧
    EG T g W (OwnR T g) F' H' σ1 Q (lcL ft ftst felt vs (ds.drop i) acc env'), ⟨ds.length, by simp, Nat.zero_le _, F1, wipeE e1 vs, [], [], SL.lock ⟨_, upd_same⟩ nr, EL, n1, upd_same, .nil, fun i hi s e => ?_, Goal.ext G1 EL⟩, ?_⟩
  · rcases wipeE_get e with ⟨_, z⟩ | ⟨z, _⟩
    · exact z
    · exact absurd hi z
  rintro i m H' ⟨rfl, hi, F', env', acc, xs, S', E', nf, hx, rx, hno, G'⟩
  have back : St8 T g F' H' σ1 env' := by
    refine ⟨by rw [S'.len, wipe_length], fun j s e => ?_, fun j k s s' a jk e e' hs hs' lj => ?_, S'.fdom, S'.fnew, fun a h => S'.ldom a (.inl h), S'.wdom, S'.zdom, S'.keep⟩
    · by_cases hj : j ∈ vs
      · rw [hno j hj s e]; exact .no
      · have r := S'.unlock.sl j s e
        rw [look_wipe, if_neg hj] at r
        exact r
    · by_cases hj : j ∈ vs
      · rw [hno j hj s e] at hs; cases hs
      · by_cases hk : k ∈ vs
        · rw [hno k hk s' e'] at hs'; cases hs'
        · have z := S'.dis j k s s' a jk e e' hs hs' (by rw [look_wipe, if_neg hj]; exact lj)
          rw [look_wipe, if_neg hk] at z
          exact z
  have rootp : ¬ Roots σ1 env' p := by
    rintro ⟨j, s, e, hs, l⟩
    have hj : j ∉ vs := fun hj => by rw [hno j hj s e] at hs; cases hs
    obtain ⟨a, d, h1, _, _, h4, _⟩ := (S'.sl j s e).root hs
    rw [look_wipe, if_neg hj, l] at h1
    cases h1
    exact h4 (.inr rfl)
  by_cases hlt : i < ds.length
  · refine .inr ⟨wk.go F' H' i E'.f E'.k hlt, fun H2 => ∃ m', m' < ds.length - i ∧ (m' = ds.length - (i + 1) ∧ i + 1 ≤ ds.length ∧ ∃ F2 env2 acc xs, St8 T (g.lock p) F2 H2 (wipe σ1 vs) env2 ∧ Ext g F1 H1 F2 H2 ∧ ¬ F2 p ∧ H2 p = some (.lst xs) ∧ RepL T F2 H2 acc xs ∧
      (∀ i ∈ vs, ∀ s, env2[i]? = some s → s = .no) ∧ EG T g W (OwnR T g) F2 H2 σ1 Q (lcL ft ftst felt vs (ds.drop (i + 1)) acc env2)), fun _ z => z, fun x H2 y => ?_⟩
    obtain ⟨F2, d, hd, S2, E2, r2⟩ := wk.yld (g.lock p) F' H' _ env' i x H2 E'.f E'.k S' y hlt
    have ed : ds.drop i = d :: ds.drop (i + 1) := by
      rw [List.getElem?_eq_getElem hlt] at hd
      rw [List.drop_eq_getElem_cons hlt, Option.some.inj hd]
    rw [ed] at G'
    have G' : EG T g W (OwnR T g) F' H' σ1 Q (lcL ft ftst felt vs (d :: ds.drop (i + 1)) acc env') := G'
    unfold lcL at G'
    cases et : ft d env' with
    | none => simp only [et] at G'; exact G'.elim
    | some e2 =>
      simp only [et] at G'
      refine pt (g.lock p) F2 H2 _ env' d x _ e2 S2 r2 et fun σ3 S3 hl3 hw3 => ⟨?_, ?_⟩
      · rw [hw3, wipe_idem]
      -- the test and the element: in the block, the new list locked; out of it again at the end
      have fin : ∀ (F5 : Addr → Prop) (H5 : Hp) (env5 : En) (acc5 : List D) (xs5 : List V), St8 T g F5 H5 σ3 env5 → Ext g F1 H1 F5 H5 → ¬ F5 p → ¬ Roots σ3 env5 p → H5 p = some (.lst xs5) → RepL T F5 H5 acc5 xs5 → EG T g W (OwnR T g) F5 H5 σ1 Q (lcL ft ftst felt vs (ds.drop (i + 1)) acc5 (wipeE env5 vs)) →
          ∃ m', m' < ds.length - i ∧ (m' = ds.length - (i + 1) ∧ i + 1 ≤ ds.length ∧ ∃ F2 env2 acc xs, St8 T (g.lock p) F2 H5 (wipe σ1 vs) env2 ∧ Ext g F1 H1 F2 H5 ∧ ¬ F2 p ∧ H5 p = some (.lst xs) ∧ RepL T F2 H5 acc xs ∧
            (∀ i ∈ vs, ∀ s, env2[i]? = some s → s = .no) ∧ EG T g W (OwnR T g) F2 H5 σ1 Q (lcL ft ftst felt vs (ds.drop (i + 1)) acc env2)) := fun F5 H5 env5 acc5 xs5 S5 E5 n5 r5 h5 a5 G5 => by
        have SX := S5.wiped (σ2 := wipe σ1 vs) vs (fun j hj => by rw [hl3 j hj]) (by rw [wipe_length, ← S5.len, ← wipe_length σ1 vs, ← SL.len, wipeE_len]; have a := S3.len; have b := S5.len; have c := SL.len; rw [wipeE_len, wipe_length] at c; have := congrArg List.length hw3; rw [wipe_length, wipe_length, wipe_length] at this; omega)
        refine ⟨_, by omega, rfl, hlt, F5, wipeE env5 vs, acc5, xs5, SX.lock ⟨_, h5⟩ ?_, E5, n5, h5, a5, fun j hj s e => ?_, G5⟩
        · rintro ⟨j, s, e, hs, l⟩
          rcases wipeE_get e with ⟨_, z⟩ | ⟨z, e⟩
          · rw [z] at hs; cases hs
          · exact r5 ⟨j, s, e, hs, by rw [look_wipe, if_neg z] at l; rw [hl3 j z, look_wipe, if_neg z]; exact l⟩
        · rcases wipeE_get e with ⟨_, z⟩ | ⟨z, _⟩
          · exact z
          · exact absurd hj z
      have unr : ∀ {F5 : Addr → Prop} {H5 : Hp} {env5 : En}, St8 T (g.lock p) F5 H5 σ3 env5 → ¬ Roots σ3 env5 p := fun S5 => by
        rintro ⟨j, s, e, hs, l⟩
        obtain ⟨a, d, h1, _, _, h4, _⟩ := (S5.sl j s e).root hs
        rw [l] at h1
        cases h1
        exact h4 (.inr rfl)
      cases ct : ftst e2 with
      | bad => rw [ct] at G'; exact G'.elim
      | exc x e => rw [ct] at G'; exact G'.elim
      | ok b e3 =>
        rw [ct] at G'
        have G' : EG T g W (OwnR T g) F' H' σ1 Q (if b = true then (felt e3).nox.bind fun y e3 => if acc.length < big then lcL ft ftst felt vs (ds.drop (i + 1)) (acc ++ [y]) (wipeE e3 vs) else .bad else lcL ft ftst felt vs (ds.drop (i + 1)) acc (wipeE e3 vs)) := G'
        refine ptst (g.lock p) F2 H2 σ3 e2 _ S3 ?_
        rw [ct]
        intro F3 H3 σ4 hs4 S4 E4
        subst hs4
        have hx3 := E4.lk p _ (.inr rfl) (E2.lk p _ (.inr rfl) hx)
        have nf3 : ¬ F3 p := fun z => nf (E2.l p (.inr rfl) (E4.l p (.inr rfl) z))
        have rx3 := (rx.mono E2.f E2.k).mono E4.f E4.k
        have EE := (E'.trans E2.unlock).trans E4.unlock
        have G' := Goal.ext (Goal.ext G' E2.unlock) E4.unlock
        cases b with
        | false =>
          rw [if_neg Bool.false_ne_true] at G' ⊢
          exact fin F3 H3 e3 acc xs S4.unlock EE nf3 (unr S4) hx3 rx3 G'
        | true =>
          rw [if_pos rfl] at G' ⊢
          cases ce : felt e3 with
          | bad => rw [ce] at G'; exact G'.elim
          | exc x e => rw [ce] at G'; exact G'.elim
          | ok y e4 =>
            rw [ce] at G'
            have G' : EG T g W (OwnR T g) F3 H3 σ1 Q (if acc.length < big then lcL ft ftst felt vs (ds.drop (i + 1)) (acc ++ [y]) (wipeE e4 vs) else .bad) := G'
            by_cases hb : acc.length < big
            · rw [if_pos hb] at G'
              refine pelt (g.lock p) F3 H3 σ4 e3 _ S4 ?_
              rw [ce]
              intro F4 H4 σ5 hs5 S5 E5 v rv
              subst hs5
              have hx4 := E5.lk p _ (.inr rfl) hx3
              have nf4 : ¬ F4 p := fun z => nf3 (E5.l p (.inr rfl) z)
              have rx4 := rx3.mono E5.f E5.k
              obtain ⟨S6, E6⟩ := S5.unlock.poke ⟨_, hx4⟩ (fun xs e => by rw [hx4] at e; cases e) nf4 n2 n3 (unr S5) (.lst (xs ++ [v]))
              refine ⟨xs, hx4, Nat.lt_of_lt_of_le (by rw [← rx4.length]; exact hb) big_line, ?_⟩
              exact fin F4 _ e4 (acc ++ [y]) (xs ++ [v]) S6 ((EE.trans E5.unlock).trans E6) nf4 (unr S5) upd_same ((rx4.snoc rv).mono E6.f E6.k) (Goal.ext (Goal.ext G' E5.unlock) E6)
            · rw [if_neg hb] at G'
              exact G'.elim
  · have e : i = ds.length := by omega
    subst e
    rw [List.drop_length] at G'
    refine .inl ⟨wk.stop F' H' E'.f E'.k, ?_⟩
    exact G' F' H' σ1 rfl back .refl _ ⟨p, rfl, nf, n2, n3, rootp, .lst hx rx⟩
end
end Pu
namespace Pu
open PySem PySem.Spec L2
open PyProof.Rows hiding St

section
variable {X : Cx} {T : Tx} {W : WX}
/-! ## comprehensions as expressions: the readings are the goals themselves -/
def cE (T : Tx) (W : WX) (f : M D) : TE := fun σ H Q => ∃ g F env, St8 T g F H σ env ∧ EG T g W (RepR T) F H σ Q (f env)
def cTs (T : Tx) (W : WX) (f : M Bool) : TT := fun σ H Q => ∃ g F env, St8 T g F H σ env ∧ TGo T g W F H σ Q (f env)
theorem PX.canon {e : Expr} {f : M D} (h : PX X T W e f) : PE X e (cE T W f) := by
  obtain ⟨t, q, p⟩ := h.ex
  exact ⟨fun pins s σ H Q I ⟨g, F, env, S, G⟩ => q.run pins s σ H Q I (p g F H σ env Q S G)⟩
theorem PXTs.canon {e : List Expr} {f : M Bool} (h : PXTs X T W e f) : PTs X e (cTs T W f) := by
  obtain ⟨t, q, p⟩ := h.ex
  exact ⟨fun pins s σ H Q I ⟨g, F, env, S, G⟩ => q.run pins s σ H Q I (p g F H σ env Q S G)⟩
/-- targets whose names are the block's own: the slots vs -/
structure PXC (X : Cx) (T : Tx) (vs : List Nat) (tg : Expr) (f : MG) : Prop where
  ex : ∃ t, PG X tg t ∧ ∀ g F H σ env d v Q env', St8 T g F H σ env → Rep T F H d v → f d env = some env' → (∀ σ', St8 T g F H σ' env' → (∀ i, i ∉ vs → look σ' i = look σ i) → wipe σ' vs = wipe σ vs → Q σ' H) → t v σ H Q
structure PXCs (X : Cx) (T : Tx) (vs : List Nat) (tg : List Expr) (f : List D → En → Option En) : Prop where
  ex : ∃ t, PGs X tg t ∧ ∀ g F H σ env d v Q env', St8 T g F H σ env → RepL T F H d v → f d env = some env' → (∀ σ', St8 T g F H σ' env' → (∀ i, i ∉ vs → look σ' i = look σ i) → wipe σ' vs = wipe σ vs → Q σ' H) → t v σ H Q
theorem wipe_set {σ : St} {i : Nat} {v : Option V} {vs : List Nat} (h : i ∈ vs) : wipe (σ.set i v) vs = wipe σ vs := by
  apply List.ext_getElem?
  intro j
  rw [wipe_get, wipe_get, List.length_set]
  by_cases c : j ∈ vs ∧ j < σ.length
  · rw [if_pos c, if_pos c]
  · rw [if_neg c, if_neg c]
    by_cases e : i = j
    · subst e
      have : ¬ i < σ.length := fun z => c ⟨h, z⟩
      rw [List.getElem?_eq_none (by rw [List.length_set]; omega), List.getElem?_eq_none (by omega)]
    · rw [List.getElem?_set_ne e]
theorem PXC.nm (i : Nat) {vs : List Nat} {x : Str} {pos : Pos} (hv : i ∈ vs) (hN : X.N.Nodup) (hi : X.N[i]? = some x := by rfl) (hx : Loc X.env.scope x := by first | exact Or.inl rfl | exact Or.inr rfl) (hf : X.fn x = true ∨ X.env.scope.names.lookup x = some .local := by first | exact .inl rfl | exact .inr rfl | assumption) : PXC X T vs (.Name x pos) (gNm i) := by
  refine ⟨_, pg_name hN hi hx hf, fun g F H σ env d v Q env' S r e k => ?_⟩
  unfold gNm at e
  split at e
  · rename_i hl
    cases e
    have hσ : i < σ.length := by rw [← S.len]; exact hl
    refine k _ (S.put i (some v) (.val d) hl (.val rfl r) fun z => by cases z) (fun j hj => ?_) (wipe_set hv)
    rw [look_set hσ, if_neg (fun z => hj (by rw [z]; exact hv))]
  · cases e
theorem PXCs.nil {vs : List Nat} : PXCs X T vs [] gN0 := by
  refine ⟨_, pgs_nil, fun g F H σ env d v Q env' S r e k => ?_⟩
  cases r with
  | nil => cases e; exact ⟨rfl, k σ S (fun _ _ => rfl) rfl⟩
  | cons _ _ => cases e
theorem PXCs.cons {vs : List Nat} {e : Expr} {es : List Expr} {f : MG} {r : List D → En → Option En} (h1 : PXC X T vs e f) (h2 : PXCs X T vs es r) (hs : (assignEach (e :: es) X.env).map (·.2) = assign e X.env :: (assignEach es X.env).map (·.2) := by rfl) : PXCs X T vs (e :: es) (gNs f r) := by
  obtain ⟨t1, q1, p1⟩ := h1.ex
  obtain ⟨t2, q2, p2⟩ := h2.ex
  refine ⟨_, pgs_cons q1 q2 hs, fun g F H σ env d v Q env' S rr e k => ?_⟩
  cases rr with
  | nil => cases e
  | cons ra rb =>
    unfold gNs at e
    obtain ⟨env1, e1, e2⟩ := Option.bind_eq_some_iff.mp e
    exact ⟨_, _, rfl, p1 g F H σ env _ _ _ env1 S ra e1 fun σ1 S1 l1 w1 => p2 g F H σ1 env1 _ _ _ env' S1 rb e2 fun σ2 S2 l2 w2 => k σ2 S2 (fun i hi => (l2 i hi).trans (l1 i hi)) (w2.trans w1)⟩
theorem PXC.tup {vs : List Nat} {es : List Expr} {k : Nat} {n : Nat} {f : List D → En → Option En} {pos : Pos} (hc : X.calm = true) (h : PXCs X T vs es f) (hn : (assignEach es X.env).length = n := by rfl) (hst : (assignEach es X.env).findIdx? (·.1) = none := by rfl)
    (hf : ∀ ds env env', f ds env = some env' → ds.length = n := by
      intro ds env env' h
      match ds, h with
      | [_, _], _ => rfl
      | [_, _, _], _ => rfl
      | [_, _, _, _], _ => rfl) : PXC X T vs (.Tuple es k pos) (gTu f) := by
  obtain ⟨t, q, p⟩ := h.ex
  refine ⟨_, pg_tup hc q hn hst, fun g F H σ env d v Q env' S r e kk => ?_⟩
  unfold gTu at e
  split at e
  · rename_i ds
    obtain ⟨a, xs, rfl, fa, ha, ra⟩ := r.rb.tup
    exact ⟨a, xs, rfl, .inl ha, by rw [← ra.length]; exact hf _ _ _ e, p g F H σ env ds xs Q env' S ra e kk⟩
  · cases e
def cG (T : Tx) (vs : List Nat) (f : MG) : TG := fun v σ H Q => ∃ g F env d env', St8 T g F H σ env ∧ Rep T F H d v ∧ f d env = some env' ∧ ∀ σ', St8 T g F H σ' env' → (∀ i, i ∉ vs → look σ' i = look σ i) → wipe σ' vs = wipe σ vs → Q σ' H
theorem PXC.canon {vs : List Nat} {e : Expr} {f : MG} (h : PXC X T vs e f) : PG X e (cG T vs f) := by
  obtain ⟨t, q, p⟩ := h.ex
  exact ⟨fun pins s σ H v u Q I r ⟨g, F, env, d, env', S, rd, ef, k⟩ => q.run pins s σ H v u Q I r (p g F H σ env d v Q env' S rd ef k)⟩
theorem PXO.lc {elt tg iter : Expr} {ifs : List Expr} {scope : Scope} {pos : Pos} {ft : MG} {fi : M (List D)} {ftst : M Bool} {felt : M D} (own : List (Str × Nat)) (hc : X.calm = true) (hN : X.N.Nodup) (hi : PXI X T W tg iter fi) (ok : blkC X.N X.env.scope scope own = true)
    (ht : ∀ (s : Shared) (H : Hp) (C : Addr) (cl : List (Str × Addr)) (fp : List Addr), PXC (X.blk s H scope (compEnvC scope cl C X.env) fp) T (own.map (·.2)) tg ft)
    (htst : ∀ (s : Shared) (H : Hp) (C : Addr) (cl : List (Str × Addr)) (fp : List Addr), PXTs (X.blk s H scope (compEnvC scope cl C X.env) fp) T W0 ifs ftst)
    (helt : ∀ (s : Shared) (H : Hp) (C : Addr) (cl : List (Str × Addr)) (fp : List Addr), PX (X.blk s H scope (compEnvC scope cl C X.env) fp) T W0 elt felt) (hs : ∀ x, foldedSetIterable iter X.env x = pure x := by intro _; rfl) :
    PXO X T W (.ListComp elt [⟨tg, iter, ifs, 0⟩] scope pos) (eLc ft fi ftst felt (own.map (·.2))) := by
  obtain ⟨wi, qi, pi⟩ := hi.ex
  refine ⟨_, pe_lc hc hN qi (blkOk_by ok) (fun s H C cl fp => (ht s H C cl fp).canon) (fun s H C cl fp => (htst s H C cl fp).canon) (fun s H C cl fp => (helt s H C cl fp).canon) hs, fun g F H σ env Q S G => ?_⟩
  exact lc_core' pi (fun g F H σ env d v Q env' S r e k => ⟨g, F, env, d, env', S, r, e, k⟩) (fun g F H σ env Q S G => ⟨g, F, env, S, G⟩) (fun g F H σ env Q S G => ⟨g, F, env, S, G⟩) S G
/-- y = [..] -/
theorem PXS.setLc (i : Nat) {y : Str} {py : Pos} {elt tg iter : Expr} {ifs : List Expr} {scope : Scope} {pos spos : Pos} {ft : MG} {fi : M (List D)} {ftst : M Bool} {felt : M D} (own : List (Str × Nat)) (hc : X.calm = true) (hN : X.N.Nodup) (hi : PXI X T W tg iter fi) (ok : blkC X.N X.env.scope scope own = true)
    (ht : ∀ (s : Shared) (H : Hp) (C : Addr) (cl : List (Str × Addr)) (fp : List Addr), PXC (X.blk s H scope (compEnvC scope cl C X.env) fp) T (own.map (·.2)) tg ft)
    (htst : ∀ (s : Shared) (H : Hp) (C : Addr) (cl : List (Str × Addr)) (fp : List Addr), PXTs (X.blk s H scope (compEnvC scope cl C X.env) fp) T W0 ifs ftst)
    (helt : ∀ (s : Shared) (H : Hp) (C : Addr) (cl : List (Str × Addr)) (fp : List Addr), PX (X.blk s H scope (compEnvC scope cl C X.env) fp) T W0 elt felt)
    (hsw : swapsWith (.ListComp elt [⟨tg, iter, ifs, 0⟩] scope pos) (some (.Name y py)) spos.line X.env = pure true) (hy : X.N[i]? = some y := by rfl) (hyl : X.env.scope.names.lookup y = some .local := by rfl) (hs : ∀ x, foldedSetIterable iter X.env x = pure x := by intro _; rfl) :
    PXS X T W (.Assign [.Name y py] (.ListComp elt [⟨tg, iter, ifs, 0⟩] scope pos) spos) (sSetO i (eLc ft fi ftst felt (own.map (·.2)))) := by
  obtain ⟨wi, qi, pi⟩ := hi.ex
  refine ⟨_, ps_setLc hc hN hy hyl hsw qi (blkOk_by ok) (fun s H C cl fp => (ht s H C cl fp).canon) (fun s H C cl fp => (htst s H C cl fp).canon) (fun s H C cl fp => (helt s H C cl fp).canon) hs, fun g F H σ env E S G => ?_⟩
  refine lc_core' (W := W) pi (fun g F H σ env d v Q env' S r e k => ⟨g, F, env, d, env', S, r, e, k⟩) (fun g F H σ env Q S G => ⟨g, F, env, S, G⟩) (fun g F H σ env Q S G => ⟨g, F, env, S, G⟩) S ?_
  refine Goal.bind (fun _ _ => trivial) G fun d e1 F1 H1 σ1 _ hs S1 E1 G1 v r => ?_
  subst hs
  split at G1
  · rename_i hl
    exact G1 F1 H1 _ trivial (set_own S1 i hl r) .refl
  · exact G1.elim
end

/-! ## defs -/
/-- what a def gives back: a value (own: a new root), with what stands now at the roots handed in; or an exception -/
inductive FRes where
  | ok (d : D) (own : Bool) (ios : List (Nat × D)) | exc (x : Exn) (ios : List (Nat × D)) | bad
/-- a def: which parameters are roots that it may write, and what it does -/
structure Fn where
  io : List Nat
  run : List D → FRes
/-- the arguments as they stand at the call -/
structure ArgR (T : Tx) (F : Addr → Prop) (H : Hp) (io : List Nat) (ds : List D) (vs : List V) : Prop where
  len : ds.length = vs.length
  val : ∀ i d, ds[i]? = some d → i ∉ io → ∃ v, vs[i]? = some v ∧ Rep T F H d v
  rt : ∀ i d, ds[i]? = some d → i ∈ io → ∃ a, vs[i]? = some (.ref a) ∧ ¬ F a ∧ Con T F H a d
  dis : ∀ i j a, i ≠ j → i ∈ io → j ∈ io → vs[i]? = some (.ref a) → vs[j]? ≠ some (.ref a)
/-- behind the call -/
structure After (T : Tx) (io : List Nat) (vs : List V) (F : Addr → Prop) (H : Hp) (ios : List (Nat × D)) (F' : Addr → Prop) (H' : Hp) : Prop where
  f : ∀ a, F a → F' a
  new : ∀ a, F' a → F a ∨ H a = none
  dom : ∀ a, F' a → ∃ o, H' a = some o
  keep : ∀ a o, H a = some o → (∀ i ∈ io, vs[i]? ≠ some (.ref a)) → H' a = some o
  rts : ∀ i ∈ io, ∀ a, vs[i]? = some (.ref a) → ¬ F' a ∧ ∃ d, (i, d) ∈ ios ∧ Con T F' H' a d
  uni : (ios.map (·.1)).Nodup
def FGoal (T : Tx) (io : List Nat) (vs : List V) (F : Addr → Prop) (H : Hp) (Q : VK) (E : XK) : FRes → Prop
  | .ok d false ios => ∀ F' H' v, After T io vs F H ios F' H' → Rep T F' H' d v → Q v H'
  | .ok d true ios => ∀ F' H' a, After T io vs F H ios F' H' → ¬ F' a → H a = none → Con T F' H' a d → Q (.ref a) H'
  | .exc x ios => ∀ F' H' dd, After T io vs F H ios F' H' → XRep T F' H' x dd → E (.ref (T.cls x.c)) dd H'
  | .bad => False
/-- the promise -/
def spF (T : Tx) (n : Nat) (f : Fn) : Sp := fun vs H Q E => vs.length = n ∧ ∃ ds F, ArgR T F H f.io ds vs ∧ (∀ a, F a → ∃ o, H a = some o) ∧ FGoal T f.io vs F H Q E (f.run ds)

/-- a body's environment at the entry -/
def env0 (io : List Nat) (ds : List D) (n : Nat) : En := (ds.mapIdx fun i d => if i ∈ io then Sl.io d else Sl.val d) ++ List.replicate (n - ds.length) .no
/-- what stands at the roots at the end -/
def iosAt (io : List Nat) (env : En) : Option (List (Nat × D)) := match io with
  | [] => some []
  | i :: r => match env[i]? with
    | some (.io d) => (iosAt r env).map fun l => (i, d) :: l
    | _ => none
/-- from a body to a def -/
def runDef (io : List Nat) (n : Nat) (body : M Fl) (ds : List D) : FRes := match body (env0 io ds n) with
  | .ok .nx e => match iosAt io e with
    | some l => .ok .non false l
    | none => .bad
  | .ok (.ret d) e => match iosAt io e with
    | some l => .ok d false l
    | none => .bad
  | .ok (.retO d) e => match iosAt io e with
    | some l => .ok d true l
    | none => .bad
  | .ok .brk _ => .bad
  | .ok .cnt _ => .bad
  | .exc x e => match iosAt io e with
    | some l => .exc x l
    | none => .bad
  | .bad => .bad
section
variable {T : Tx}
theorem iosAt_mem {g : G} {F : Addr → Prop} {H : Hp} {σ : St} {env : En} (S : St8 T g F H σ env) : ∀ {io : List Nat} {l : List (Nat × D)}, iosAt io env = some l → l.map (·.1) = io ∧ ∀ i ∈ io, ∃ d a, (i, d) ∈ l ∧ look σ i = some (.ref a) ∧ ¬ F a ∧ g.W i a ∧ Con T F H a d
  | [], l, e => by cases e; exact ⟨rfl, fun i h => by cases h⟩
  | i :: r, l, e => by
    unfold iosAt at e
    split at e
    · rename_i d e1
      obtain ⟨l', e2, rfl⟩ := Option.map_eq_some_iff.mp e
      obtain ⟨h1, h2⟩ := iosAt_mem S e2
      refine ⟨by rw [List.map_cons, h1], fun j hj => ?_⟩
      rcases List.mem_cons.mp hj with z | z
      · subst z
        cases S.sl j _ e1 with
        | io h f l w c => exact ⟨d, _, List.mem_cons_self, h, f, w, c⟩
      · obtain ⟨d', a, m, q⟩ := h2 j z
        exact ⟨d', a, List.mem_cons_of_mem _ m, q⟩
    · cases e
theorem env0_get {io : List Nat} {ds : List D} {n : Nat} {i : Nat} {s : Sl} (h : (env0 io ds n)[i]? = some s) : (∃ d, ds[i]? = some d ∧ s = if i ∈ io then Sl.io d else Sl.val d) ∨ s = .no := by
  unfold env0 at h
  rw [List.getElem?_append] at h
  split at h
  · rw [List.getElem?_mapIdx] at h
    cases e : ds[i]? with
    | none => rw [e] at h; cases h
    | some d => rw [e] at h; exact .inl ⟨d, rfl, (Option.some.inj h).symm⟩
  · right
    rw [List.getElem?_replicate] at h
    split at h
    · exact (Option.some.inj h).symm
    · cases h
theorem look_start {N : List Str} {vs : List V} {i : Nat} {v : V} (h : vs[i]? = some v) : look (L2.start N vs) i = some v := by
  unfold L2.start
  apply look_of
  rw [List.getElem?_append_left (by rw [List.length_map]; exact (List.getElem?_eq_some_iff.mp h).1), List.getElem?_map, h]
  rfl
/-- the state at a body's entry -/
theorem st_start {io : List Nat} {ds : List D} {vs : List V} {N : List Str} {F : Addr → Prop} {H : Hp} (A : ArgR T F H io ds vs) (hF : ∀ a, F a → ∃ o, H a = some o) (hn : vs.length ≤ N.length) (hio : ∀ i ∈ io, i < vs.length) :
    St8 T ⟨F, H, fun i a => i ∈ io ∧ vs[i]? = some (.ref a), fun _ => False, fun _ => False⟩ F H (L2.start N vs) (env0 io ds N.length) := by
  have wd : ∀ i a, i ∈ io → vs[i]? = some (.ref a) → ∃ o, H a = some o := fun i a hi hv => by
    have hl := hio i hi
    rw [← A.len] at hl
    obtain ⟨b, h1, h2, h3⟩ := A.rt i _ (List.getElem?_eq_getElem hl) hi
    rw [hv] at h1; cases h1
    obtain ⟨o, q, _⟩ := h3.there
    exact ⟨o, q⟩
  refine ⟨?_, fun i s e => ?_, fun i j s s' a ij e e' hs hs' li lj => ?_, hF, fun a h => .inl h, fun a h => h.elim, fun i a ⟨h1, h2⟩ => wd i a h1 h2, fun a h => h.elim, fun a o h _ _ => h⟩
  · unfold env0 L2.start
    rw [List.length_append, List.length_append, List.length_mapIdx, List.length_map, List.length_replicate, List.length_replicate, A.len]
  · rcases env0_get e with ⟨d, hd, rfl⟩ | rfl
    · split
      · rename_i hi
        obtain ⟨a, h1, h2, h3⟩ := A.rt i d hd hi
        exact .io (look_start h1) h2 (fun z => z) ⟨hi, h1⟩ h3
      · rename_i hi
        obtain ⟨v, h1, h2⟩ := A.val i d hd hi
        exact .val (look_start h1) h2
    · exact .no
  · rcases env0_get e with ⟨d, hd, rfl⟩ | rfl
    · rcases env0_get e' with ⟨d', hd', rfl⟩ | rfl
      · split at hs
        · rename_i hi
          split at hs'
          · rename_i hj
            obtain ⟨b, h1, _⟩ := A.rt i d hd hi
            obtain ⟨c, h1', _⟩ := A.rt j d' hd' hj
            rw [look_start h1] at li
            rw [look_start h1'] at lj
            cases li
            cases lj
            exact A.dis i j _ ij hi hj h1 h1'
          · cases hs'
        · cases hs
      · cases hs'
    · cases hs
/-- from a body's end to behind the call -/
theorem after_of {io : List Nat} {vs : List V} {F : Addr → Prop} {H : Hp} {F' : Addr → Prop} {H' : Hp} {σ' : St} {env' : En} {l : List (Nat × D)} (hnd : io.Nodup)
    (S : St8 T ⟨F, H, fun i a => i ∈ io ∧ vs[i]? = some (.ref a), fun _ => False, fun _ => False⟩ F' H' σ' env') (hf : ∀ a, F a → F' a) (e : iosAt io env' = some l) : After T io vs F H l F' H' := by
  obtain ⟨h1, h2⟩ := iosAt_mem S e
  refine ⟨hf, S.fnew, S.fdom, fun a o h k => S.keep a o h (fun i ⟨hi, hv⟩ => k i hi hv) (fun z => z), fun i hi a hv => ?_, by rw [h1]; exact hnd⟩
  obtain ⟨d, b, m, lk, nf, ⟨_, hb⟩, c⟩ := h2 i hi
  rw [hv] at hb
  cases hb
  exact ⟨nf, d, m, c⟩
theorem Fun.def {P : Program} {w : World} {K : PySem.W.Frag} {mg : Str → Option Value} {base : Heap} {x qual : Str} {st : Stmt} {f : Addr} {fd : FuncData} {N ps : List Str} {k : Nat} (T : Tx) (io : List Nat) (body : M Fl) (F : L2.Fun K x qual st f fd) (S : FnScope N ps (defScope st)) (hnd : io.Nodup) (hio : ∀ i ∈ io, i < ps.length)
    (hbody : ∀ (cdv : Value) (A : Around) (outer : List Env) (s : Shared) (H : Hp) (E : XK), Room k (A.deeper (envOfC qual (defScope st) s.heap.objs.size f cdv)) →
      PXSs (cxOf (L2.CX P w) P w K mg base N qual (defScope st) f cdv A outer s H E) T (fun cls d _ H => E cls d H) (defBody st) body) :
    FnOk P w K mg base (L2.CX P w) (k + 1) f fd ps (spF T ps.length ⟨io, runDef io N.length body⟩) := by
  refine F.okX S (fun vs H Q E h => h.1) fun cdv A outer s H vs Q E hr h => ?_
  obtain ⟨hl, ds, FF, ar, hF, goal⟩ := h
  obtain ⟨t, q, p⟩ := (hbody cdv A outer s H E hr).ex
  have hN : ps.length ≤ N.length := by
    have := congrArg List.length S.pre
    rw [List.length_take] at this
    omega
  refine ⟨t, q, ?_⟩
  have S0 := st_start (N := N) ar hF (by rw [hl]; exact hN) (fun i hi => by rw [hl]; exact hio i hi)
  refine p _ FF H (L2.start N vs) _ _ S0 ?_
  have goal : FGoal T io vs FF H Q E (runDef io N.length body ds) := goal
  unfold runDef at goal
  cases eb : body (env0 io ds N.length) with
  | bad => rw [eb] at goal; exact goal.elim
  | exc x e =>
    simp only [eb] at goal
    intro F' H' σ' dd _ S' E' r
    cases el : iosAt io e with
    | none => simp only [el] at goal; exact goal.elim
    | some l => simp only [el] at goal; exact goal F' H' dd (after_of hnd S' E'.f el) r
  | ok fl e =>
    simp only [eb] at goal
    intro F' H' σ' _ S' E'
    cases fl with
    | nx =>
      cases el : iosAt io e with
      | none => simp only [el] at goal; exact goal.elim
      | some l => simp only [el] at goal; exact goal F' H' _ (after_of hnd S' E'.f el) .non
    | ret d =>
      intro v r
      cases el : iosAt io e with
      | none => simp only [el] at goal; exact goal.elim
      | some l => simp only [el] at goal; exact goal F' H' v (after_of hnd S' E'.f el) r
    | retO d =>
      intro v r
      obtain ⟨a, rfl, n1, n2, n3, n4, c⟩ := r.ex
      cases el : iosAt io e with
      | none => simp only [el] at goal; exact goal.elim
      | some l => simp only [el] at goal; exact goal F' H' a (after_of hnd S' E'.f el) n1 n3 c
    | brk => exact goal.elim
    | cnt => exact goal.elim
end
end Pu
namespace Pu
open PySem PySem.Spec L2
open PyProof.Rows hiding St

/-! ## a call changes the roots handed in, and lays new objects -/
section
variable {T : Tx} {g : G} {F : Addr → Prop} {H : Hp} {σ : St} {env : En}
theorem St8.called (S : St8 T g F H σ env) (R : Addr → Prop) (hR : ∀ a, R a → ¬ F a ∧ ¬ g.L a ∧ (g.H0 a = none ∨ ∃ i, g.W i a) ∧ ¬ Roots σ env a ∧ ∀ xs, H a ≠ some (.tup xs)) {F' : Addr → Prop} {H' : Hp} (hf : ∀ a, F a → F' a) (hn : ∀ a, F' a → F a ∨ H a = none)
    (hd : ∀ a, F' a → ∃ o, H' a = some o) (hk : ∀ a o, H a = some o → ¬ R a → H' a = some o) (ht : ∀ a, R a → ∃ o, H' a = some o) : St8 T g F' H' σ env ∧ Ext g F H F' H' := by
  have there : ∀ a, (∃ o, H a = some o) → ∃ o, H' a = some o := fun a ⟨o, e⟩ => by
    by_cases c : R a
    · exact ht a c
    · exact ⟨o, hk a o e c⟩
  have kp : Kp F H H' := .of_eq (fun a o f e => hk a o e fun r => (hR a r).1 f) fun a xs e => hk a _ e fun r => (hR a r).2.2.2.2 xs e
  have newF : ∀ a, F' a → ¬ F a → H a = none := fun a h n => (hn a h).resolve_left n
  refine ⟨⟨S.len, fun i s e => (S.sl i s e).grow hf kp fun a ea hs => ⟨fun h => ?_, fun o q => ?_⟩, S.dis, hd, fun a h => ?_, fun a h => there a (S.ldom a h), fun i a h => there a (S.wdom i a h), fun a h => there a (S.zdom a h), fun a o h0 hw hz => ?_⟩, ⟨hf, fun a hl h => ?_, kp, fun a o hl q => ?_⟩⟩
  · obtain ⟨n1, o, q⟩ := S.roots ⟨i, s, e, hs, ea⟩
    rw [newF a h n1] at q; cases q
  · exact hk a o q fun r => (hR a r).2.2.2.1 ⟨i, s, e, hs, ea⟩
  · rcases hn a h with z | z
    · exact S.fnew a z
    · exact .inr (S.free z).2.2.1
  · refine hk a o (S.keep a o h0 hw hz) fun r => ?_
    rcases (hR a r).2.2.1 with z | ⟨i, z⟩
    · rw [z] at h0; cases h0
    · exact hw i z
  · rcases hn a h with z | z
    · exact z
    · exact absurd hl (S.free z).2.1
  · exact hk a o q fun r => (hR a r).2.1 hl

/-! ## arguments -/
def slsOf : List Av → List Nat
  | [] => []
  | .val _ :: r => slsOf r
  | .sl i :: r => i :: slsOf r
/-- the arguments' data: a slot's root must be handed where the def writes, and only there -/
def prep (io : List Nat) : Nat → List Av → En → Option (List D)
  | _, [], _ => some []
  | j, .val d :: r, e => if j ∈ io then none else (prep io (j + 1) r e).map fun ds => d :: ds
  | j, .sl i :: r, e => if j ∈ io then (rootD e i).bind fun p => (prep io (j + 1) r e).map fun ds => p.1 :: ds else none
/-- the slots signed again -/
def resign (e1 : En) (as : List Av) : List (Nat × D) → En → En
  | [], e => e
  | (j, d) :: r, e => match as[j]? with
    | some (.sl i) => match rootD e1 i with
      | some (_, mk) => (resign e1 as r e).set i (mk d)
      | none => resign e1 as r e
    | _ => resign e1 as r e
theorem AvsR.len {as : List Av} {vs : List V} (r : AvsR T F H σ as vs) : as.length = vs.length := by
  induction r with
  | nil => rfl
  | cons _ _ ih => rw [List.length_cons, List.length_cons, ih]
theorem prep_len {io : List Nat} : ∀ {as : List Av} {j : Nat} {e : En} {ds : List D}, prep io j as e = some ds → ds.length = as.length
  | [], _, _, _, h => by cases h; rfl
  | .val d :: r, j, e, ds, h => by
    unfold prep at h
    split at h
    · cases h
    · obtain ⟨l, h1, rfl⟩ := Option.map_eq_some_iff.mp h
      rw [List.length_cons, List.length_cons, prep_len h1]
  | .sl i :: r, j, e, ds, h => by
    unfold prep at h
    split at h
    · obtain ⟨p, h1, h2⟩ := Option.bind_eq_some_iff.mp h
      obtain ⟨l, h3, rfl⟩ := Option.map_eq_some_iff.mp h2
      rw [List.length_cons, List.length_cons, prep_len h3]
    · cases h
theorem prep_at {io : List Nat} {as : List Av} {vs : List V} (rs : AvsR T F H σ as vs) : ∀ {j : Nat} {e : En} {ds : List D}, prep io j as e = some ds → ∀ k d, ds[k]? = some d →
    (j + k ∉ io ∧ as[k]? = some (.val d) ∧ ∃ v, vs[k]? = some v ∧ Rep T F H d v) ∨ (j + k ∈ io ∧ ∃ i mk a, as[k]? = some (.sl i) ∧ rootD e i = some (d, mk) ∧ look σ i = some (.ref a) ∧ vs[k]? = some (.ref a)) := by
  induction rs with
  | nil => intro j e ds h k d hd; cases h; simp at hd
  | @cons a v as vs ra rs ih =>
    intro j e ds h k d hd
    cases ra with
    | @val d0 v0 r0 =>
      unfold prep at h
      split at h
      · cases h
      · rename_i hj
        obtain ⟨l, h1, rfl⟩ := Option.map_eq_some_iff.mp h
        cases k with
        | zero => cases hd; exact .inl ⟨hj, rfl, v, rfl, r0⟩
        | succ k =>
          have := ih h1 k d (by simpa using hd)
          rw [show j + 1 + k = j + (k + 1) from by omega] at this
          simpa using this
    | @sl i a l0 =>
      unfold prep at h
      split at h
      · rename_i hj
        obtain ⟨p, h1, h2⟩ := Option.bind_eq_some_iff.mp h
        obtain ⟨l, h3, rfl⟩ := Option.map_eq_some_iff.mp h2
        cases k with
        | zero => cases hd; exact .inr ⟨hj, i, p.2, a, rfl, h1, l0, rfl⟩
        | succ k =>
          have := ih h3 k d (by simpa using hd)
          rw [show j + 1 + k = j + (k + 1) from by omega] at this
          simpa using this
      · cases h
theorem sls_at : ∀ {as : List Av} {j k i : Nat}, (slsOf as).Nodup → as[j]? = some (.sl i) → as[k]? = some (.sl i) → j = k
  | [], j, k, i, _, h, _ => by simp at h
  | .val d :: r, j, k, i, n, h1, h2 => by
    cases j with
    | zero => cases h1
    | succ j =>
      cases k with
      | zero => cases h2
      | succ k =>
        have q := sls_at (as := r) (j := j) (k := k) (i := i) n (by simpa using h1) (by simpa using h2)
        omega
  | .sl i0 :: r, j, k, i, n, h1, h2 => by
    have mem : ∀ {r : List Av} {m : Nat}, r[m]? = some (.sl i) → i ∈ slsOf r := fun {r m} h => by
      induction r generalizing m with
      | nil => simp at h
      | cons a r ih =>
        cases m with
        | zero => cases h; exact List.mem_cons_self
        | succ m =>
          have := ih (m := m) (by simpa using h)
          cases a with
          | val _ => exact this
          | sl _ => exact List.mem_cons_of_mem _ this
    have n' := List.nodup_cons.mp n
    cases j with
    | zero =>
      cases h1
      cases k with
      | zero => rfl
      | succ k => exact absurd (mem (r := r) (m := k) (by simpa using h2)) n'.1
    | succ j =>
      cases k with
      | zero => cases h2; exact absurd (mem (r := r) (m := j) (by simpa using h1)) n'.1
      | succ k =>
        have q := sls_at (as := r) (j := j) (k := k) (i := i) n'.2 (by simpa using h1) (by simpa using h2)
        omega
theorem mem_sls : ∀ {as : List Av} {m i : Nat}, as[m]? = some (.sl i) → i ∈ slsOf as
  | [], _, _, h => by simp at h
  | .val _ :: r, 0, _, h => by cases h
  | .sl _ :: r, 0, _, h => by cases h; exact List.mem_cons_self
  | .val _ :: r, m + 1, _, h => mem_sls (as := r) (m := m) (by simpa using h)
  | .sl _ :: r, m + 1, _, h => List.mem_cons_of_mem _ (mem_sls (as := r) (m := m) (by simpa using h))
theorem of_mem_sls : ∀ {as : List Av} {i : Nat}, i ∈ slsOf as → ∃ m : Nat, as[m]? = some (Av.sl i)
  | [], _, h => by cases h
  | .val _ :: r, _, h => by obtain ⟨m, e⟩ := of_mem_sls (as := r) h; exact ⟨m + 1, by simpa using e⟩
  | .sl j :: r, i, h => by
    rcases List.mem_cons.mp h with e | h
    · exact ⟨0, by rw [e]; rfl⟩
    · obtain ⟨m, e⟩ := of_mem_sls (as := r) h; exact ⟨m + 1, by simpa using e⟩
/-- the call's two ends -/
theorem call_ends {e1 : En} {io : List Nat} {as : List Av} {vs : List V} {ds : List D} (S : St8 T g F H σ e1) (rs : AvsR T F H σ as vs) (hp : prep io 0 as e1 = some ds) (hn : (slsOf as).Nodup) (hio : ∀ i ∈ io, i < as.length) :
    ArgR T F H io ds vs ∧ ∀ ios F' H', After T io vs F H ios F' H' → St8 T g F' H' σ (resign e1 as ios (wipeE e1 (slsOf as))) ∧ Ext g F H F' H' ∧ ∀ a, Roots σ (resign e1 as ios (wipeE e1 (slsOf as))) a → Roots σ e1 a := by
  have at0 := fun k d hd => prep_at rs hp k d hd
  have hl : ds.length = as.length := prep_len hp
  -- each written place: its slot, its root
  have io_at : ∀ j ∈ io, ∃ i mk a d, as[j]? = some (.sl i) ∧ rootD e1 i = some (d, mk) ∧ look σ i = some (.ref a) ∧ vs[j]? = some (.ref a) ∧ ds[j]? = some d := fun j hj => by
    have hj' : j < ds.length := by rw [hl]; exact hio j hj
    rcases at0 j _ (List.getElem?_eq_getElem hj') with ⟨n, _⟩ | ⟨_, i, mk, a, h1, h2, h3, h4⟩
    · rw [Nat.zero_add] at n; exact absurd hj n
    · exact ⟨i, mk, a, _, h1, h2, h3, h4, List.getElem?_eq_getElem hj'⟩
  have AR : ArgR T F H io ds vs := by
    refine ⟨hl.trans rs.len, fun i d hd hi => ?_, fun i d hd hi => ?_, fun i j a ij hi hj hvi hvj => ?_⟩
    · rcases at0 i d hd with ⟨_, _, h⟩ | ⟨n, _⟩
      · exact h
      · rw [Nat.zero_add] at n; exact absurd n hi
    · obtain ⟨k, mk, a, d', h1, h2, h3, h4, h5⟩ := io_at i hi
      rw [hd] at h5; cases h5
      obtain ⟨b, R⟩ := S.atRoot h2
      have eb := R.lk
      rw [h3] at eb; cases eb
      exact ⟨a, h4, R.nf, R.con⟩
    · obtain ⟨k, mk, b, d', h1, h2, h3, h4, h5⟩ := io_at i hi
      obtain ⟨k', mk', b', d'', h1', h2', h3', h4', h5'⟩ := io_at j hj
      rw [hvi] at h4; cases h4
      rw [hvj] at h4'; cases h4'
      have nk : k ≠ k' := fun z => ij (sls_at hn h1 (by rw [z]; exact h1'))
      obtain ⟨b, R⟩ := S.atRoot h2
      obtain ⟨b', R'⟩ := S.atRoot h2'
      obtain ⟨s, q1, q2⟩ := R.inEnv h2
      obtain ⟨s', q1', q2'⟩ := R'.inEnv h2'
      exact S.dis k k' s s' a nk q1 q1' q2 q2' h3 h3'
  refine ⟨AR, fun ios F' H' A => ?_⟩
  have SW := S.wiped (σ2 := σ) (slsOf as) (fun _ _ => rfl) rfl
  obtain ⟨S1, E1⟩ := SW.called (fun a => ∃ j ∈ io, vs[j]? = some (.ref a)) (fun a ⟨j, hj, hv⟩ => by
      obtain ⟨i, mk, b, d, h1, h2, h3, h4, h5⟩ := io_at j hj
      rw [hv] at h4; cases h4
      obtain ⟨b, R⟩ := S.atRoot h2
      have eb := R.lk
      rw [h3] at eb; cases eb
      refine ⟨R.nf, R.nl, R.wr.imp id fun z => ⟨i, z⟩, ?_, R.con.nt⟩
      rintro ⟨m, s, e, hs, l⟩
      rcases wipeE_get e with ⟨_, z⟩ | ⟨z, e⟩
      · rw [z] at hs; cases hs
      · obtain ⟨s0, q1, q2⟩ := R.inEnv h2
        have im : i ≠ m := fun w => z (by rw [← w]; exact mem_sls h1)
        exact S.dis i m s0 s a im q1 e q2 hs h3 l)
    A.f A.new A.dom (fun a o h n => A.keep a o h fun j hj hv => n ⟨j, hj, hv⟩) (fun a ⟨j, hj, hv⟩ => by
      obtain ⟨_, d, _, c⟩ := A.rts j hj a hv
      obtain ⟨o, q, _⟩ := c.there
      exact ⟨o, q⟩)
  -- sign them again, one after another
  have rootsW : ∀ a, Roots σ (wipeE e1 (slsOf as)) a → Roots σ e1 a := fun a ⟨m, s, e, hs, l⟩ => by
    rcases wipeE_get e with ⟨_, z⟩ | ⟨z, e⟩
    · rw [z] at hs; cases hs
    · exact ⟨m, s, e, hs, l⟩
  have go : ∀ l : List (Nat × D), (l.map (·.1)).Nodup → (∀ j d, (j, d) ∈ l → (j, d) ∈ ios) → St8 T g F' H' σ (resign e1 as l (wipeE e1 (slsOf as))) ∧ (∀ (m : Nat) (s : Sl), (resign e1 as l (wipeE e1 (slsOf as)))[m]? = some s → s.rooted = true → ∃ s0 : Sl, e1[m]? = some s0 ∧ s0.rooted = true) := by
    intro l
    induction l with
    | nil =>
      intro _ _
      refine ⟨S1, fun m s e hs => ?_⟩
      rcases wipeE_get e with ⟨_, z⟩ | ⟨z, e⟩
      · rw [z] at hs; cases hs
      · exact ⟨s, e, hs⟩
    | cons p l ih =>
      obtain ⟨j, d⟩ := p
      intro hnd hm
      rw [List.map_cons] at hnd
      obtain ⟨S2, r2⟩ := ih (List.nodup_cons.mp hnd).2 fun j d h => hm j d (List.mem_cons_of_mem _ h)
      unfold resign
      cases ej : as[j]? with
      | none => simp only [ej]; exact ⟨S2, r2⟩
      | some av =>
        cases av with
        | val _ => simp only [ej]; exact ⟨S2, r2⟩
        | sl i =>
          simp only [ej]
          cases er : rootD e1 i with
          | none => simp only [er]; exact ⟨S2, r2⟩
          | some p =>
            obtain ⟨d0, mk⟩ := p
            simp only [er]
            obtain ⟨a, R⟩ := S.atRoot er
            obtain ⟨s0, q1, q2⟩ := R.inEnv er
            -- j is a written place, for its slot is handed in
            have hj : j ∈ io := by
              have hjl : j < ds.length := by rw [hl]; exact (List.getElem?_eq_some_iff.mp ej).1
              rcases at0 j _ (List.getElem?_eq_getElem hjl) with ⟨_, z, _⟩ | ⟨z, _⟩
              · rw [ej] at z; cases z
              · rw [Nat.zero_add] at z; exact z
            obtain ⟨i', mk', a', d', h1, h2, h3, h4, h5⟩ := io_at j hj
            rw [ej] at h1; cases h1
            have ea := R.lk
            rw [h3] at ea; cases ea
            obtain ⟨nf, d1, md, c⟩ := A.rts j hj _ h4
            have ed : d1 = d := by
              have u := A.uni
              have m1 := hm j d List.mem_cons_self
              have key : ∀ {l : List (Nat × D)}, (l.map (·.1)).Nodup → (j, d) ∈ l → (j, d1) ∈ l → d1 = d := fun {l} => by
                induction l with
                | nil => intro _ h; cases h
                | cons q l ih =>
                  intro n h h'
                  rw [List.map_cons] at n
                  have n' := List.nodup_cons.mp n
                  rcases List.mem_cons.mp h with z | z
                  · rcases List.mem_cons.mp h' with w | w
                    · have := z.trans w.symm; cases this; rfl
                    · exact absurd (List.mem_map.mpr ⟨_, w, by rw [← z]⟩) n'.1
                  · rcases List.mem_cons.mp h' with w | w
                    · exact absurd (List.mem_map.mpr ⟨_, z, by rw [← w]⟩) n'.1
                    · exact ih n'.2 z w
              exact key u m1 md
            subst ed
            have hlen : i < (resign e1 as l (wipeE e1 (slsOf as))).length := by rw [S2.len, ← S.len]; exact R.hi
            refine ⟨S2.sign i (mk d1) hlen (R.mkR F' H' d1 nf c) fun _ b eb m t mi q ht lm => ?_, fun m s e hs => ?_⟩
            · obtain ⟨s1, w1, w2⟩ := r2 m t q ht
              exact S.dis i m s0 s1 b (Ne.symm mi) q1 w1 q2 w2 eb lm
            · by_cases mi : m = i
              · subst mi; exact ⟨s0, q1, q2⟩
              · rw [List.getElem?_set_ne (Ne.symm mi)] at e
                exact r2 m s e hs
  obtain ⟨S2, r2⟩ := go ios A.uni fun _ _ h => h
  exact ⟨S2, E1, fun a ⟨m, s, e, hs, l⟩ => let ⟨s0, q1, q2⟩ := r2 m s e hs; ⟨m, s0, q1, q2, l⟩⟩
end

/-! ## f(..) -/
def mEnd (e1 : En) (as : List Av) : FRes → Out D
  | .ok d _ ios => .ok d (resign e1 as ios (wipeE e1 (slsOf as)))
  | .exc x ios => .exc x (resign e1 as ios (wipeE e1 (slsOf as)))
  | .bad => .bad
def argsOk (io : List Nat) (as : List Av) : Bool := decide (slsOf as).Nodup && io.all fun i => decide (i < as.length)
def mCall (n : Nat) (fn : Fn) (fa : M (List Av)) : M D := fun env => (fa env).bind fun as e1 => if argsOk fn.io as = true ∧ as.length = n then match prep fn.io 0 as e1 with
    | some ds => mEnd e1 as (fn.run ds)
    | none => .bad
  else .bad
def ownOnly : FRes → FRes
  | .ok d true ios => .ok d true ios
  | .ok _ false _ => .bad
  | r => r
def mCallO (n : Nat) (fn : Fn) (fa : M (List Av)) : M D := fun env => (fa env).bind fun as e1 => if argsOk fn.io as = true ∧ as.length = n then match prep fn.io 0 as e1 with
    | some ds => mEnd e1 as (ownOnly (fn.run ds))
    | none => .bad
  else .bad
theorem argsOk_iff {io : List Nat} {as : List Av} (h : argsOk io as = true) : (slsOf as).Nodup ∧ ∀ i ∈ io, i < as.length := by
  unfold argsOk at h
  rw [Bool.and_eq_true] at h
  exact ⟨of_decide_eq_true h.1, fun i hi => of_decide_eq_true (List.all_eq_true.mp h.2 i hi)⟩
section
variable {X : Cx} {T : Tx} {W : WX} {k : Nat} {f : Addr} {fd : FuncData} {ps : List Str} {x : Str} {p pos : Pos} {e : Expr} {es : List Expr} {n : Nat} {fn : Fn} {fa : M (List Av)}
theorem call_core {t : TA} {R : G → RR} (hR : ∀ g F H σ env d v, Rep T F H d v → (∀ d v, Rep T F H d v → R g F H σ env d v) → R g F H σ env d v)
    (pa : ∀ g F H σ env Q, St8 T g F H σ env → Goal T g W F H (· = σ) (fun F' H' σ' _ ds => ∀ vs, AvsR T F' H' σ' ds vs → Q vs H') (fa env) → t σ H Q)
    {g : G} {F : Addr → Prop} {H : Hp} {σ : St} {env : En} {Q : VK} (S : St8 T g F H σ env) (G : EG T g W (RepR T) F H σ Q (mCall n fn fa env)) : tCallS (spF T n fn) (WE W) t σ H Q := by
  refine pa g F H σ env _ S (Goal.bind (fun _ h => h) G fun as e1 F1 H1 σ1 _ hs S1 E1 G1 vs rs => ?_)
  subst hs
  split at G1
  · rename_i c
    obtain ⟨hn, hio⟩ := argsOk_iff c.1
    split at G1
    · rename_i ds hp
      obtain ⟨AR, fin⟩ := call_ends S1 rs hp hn hio
      refine ⟨rs.len.symm.trans c.2, ds, F1, AR, S1.fdom, ?_⟩
      cases er : fn.run ds with
      | bad => rw [er] at G1; exact G1.elim
      | exc x ios =>
        rw [er] at G1
        intro F' H' dd A r
        obtain ⟨S2, E2, _⟩ := fin ios F' H' A
        exact G1 F' H' σ1 dd rfl S2 E2 r
      | ok d own ios =>
        rw [er] at G1
        cases own with
        | false =>
          intro F' H' v A r
          obtain ⟨S2, E2, _⟩ := fin ios F' H' A
          exact G1 F' H' σ1 rfl S2 E2 v r
        | true =>
          intro F' H' a A nf h0 c
          obtain ⟨S2, E2, rt⟩ := fin ios F' H' A
          obtain ⟨n1, n2, n3, n4, n5⟩ := S1.free h0
          have nr : ¬ Roots σ1 (resign e1 as ios (wipeE e1 (slsOf as))) a := fun z => S1.noroot h0 (rt a z)
          obtain ⟨o, q, _⟩ := c.there
          obtain ⟨S3, E3⟩ := S2.freeze ⟨o, q⟩ n3 n2 nr
          exact G1 _ H' σ1 rfl S3 (E2.trans E3) _ ((c.mono E3.f E3.k fun _ h => h).rep (.inr rfl))
    · exact G1.elim
  · exact G1.elim
theorem PX.call (Fk : FnOk X.prog X.w X.K X.mg X.base (L2.CX X.prog X.w) k f fd ps (spF T n fn)) (hr : Room k X.A) (hm : X.mg x = some (.ref f)) (hk : PySem.W.keepIn X.K (.ref f) = true) (hb : Binds X.K fd ps []) (tk : Takes X W) (ha : PXA X T W (e :: es) fa)
    (hg : Gl X x := by rfl) (hdb : (x == ("__debug__" : Str)) = false := by decide) (he : starEach (e :: es) X.env = (false, eval e X.env) :: starEach es X.env := by rfl) (hpl : (backTo pos (starEach es X.env)).any (·.1) = false := by rfl) :
    PX X T W (.Call (.Name x p) (e :: es) [] pos) (mCall n fn fa) := by
  obtain ⟨t, q, pa⟩ := ha.ex
  exact ⟨_, pe_callS Fk hr hg hm hk hb (fun σ => passAt tk σ) q hdb he hpl, fun g F H σ env Q S G => call_core (R := fun _ => RepR T) (fun _ _ _ _ _ d v r h => h d v r) pa S G⟩
theorem PXO.call (Fk : FnOk X.prog X.w X.K X.mg X.base (L2.CX X.prog X.w) k f fd ps (spF T n fn)) (hr : Room k X.A) (hm : X.mg x = some (.ref f)) (hk : PySem.W.keepIn X.K (.ref f) = true) (hb : Binds X.K fd ps []) (tk : Takes X W) (ha : PXA X T W (e :: es) fa)
    (hg : Gl X x := by rfl) (hdb : (x == ("__debug__" : Str)) = false := by decide) (he : starEach (e :: es) X.env = (false, eval e X.env) :: starEach es X.env := by rfl) (hpl : (backTo pos (starEach es X.env)).any (·.1) = false := by rfl) :
    PXO X T W (.Call (.Name x p) (e :: es) [] pos) (mCallO n fn fa) := by
  obtain ⟨t, q, pa⟩ := ha.ex
  refine ⟨_, pe_callS Fk hr hg hm hk hb (fun σ => passAt tk σ) q hdb he hpl, fun g F H σ env Q S G => ?_⟩
  refine pa g F H σ env _ S (Goal.bind (fun _ h => h) G fun as e1 F1 H1 σ1 _ hs S1 E1 G1 vs rs => ?_)
  subst hs
  split at G1
  · rename_i c
    obtain ⟨hn, hio⟩ := argsOk_iff c.1
    split at G1
    · rename_i ds hp
      obtain ⟨AR, fin⟩ := call_ends S1 rs hp hn hio
      refine ⟨rs.len.symm.trans c.2, ds, F1, AR, S1.fdom, ?_⟩
      cases er : fn.run ds with
      | bad => rw [er] at G1; exact G1.elim
      | exc x ios =>
        rw [er] at G1
        intro F' H' dd A r
        obtain ⟨S2, E2, _⟩ := fin ios F' H' A
        exact G1 F' H' σ1 dd rfl S2 E2 r
      | ok d own ios =>
        rw [er] at G1
        cases own with
        | false => exact G1.elim
        | true =>
          intro F' H' a A nf h0 c
          obtain ⟨S2, E2, rt⟩ := fin ios F' H' A
          obtain ⟨n1, n2, n3, n4, n5⟩ := S1.free h0
          exact G1 F' H' σ1 rfl S2 E2 _ ⟨a, rfl, nf, n2, n3, fun z => S1.noroot h0 (rt a z), c⟩
    · exact G1.elim
  · exact G1.elim

/-! ## instances -/
def getF (fs : List (Str × D)) (f : Str) : Option D := fs.lookup f
def putFD (f : Str) (d : D) : List (Str × D) → List (Str × D)
  | [] => [(f, d)]
  | (g, v) :: r => if g = f then (g, d) :: r else (g, v) :: putFD f d r
theorem RepF.get {F : Addr → Prop} {H : Hp} {f : Str} {d : D} : ∀ {ds : List (Str × D)} {xs : List (Str × V)}, RepF T F H ds xs → getF ds f = some d → ∃ v, xs.lookup f = some v ∧ Rep T F H d v
  | _, _, .nil, e => by cases e
  | (k, d') :: ds, (_, x) :: xs, .cons h1 h2, e => by
    unfold getF at e
    rw [List.lookup_cons] at e ⊢
    cases c : f == k with
    | true => rw [c] at e; cases e; exact ⟨x, rfl, h1⟩
    | false => rw [c] at e; exact RepF.get h2 e
/-- e.f -/
def eFld (f : Str) (fe : M D) : M D := fun env => (fe env).bind fun d e => match d with
  | .ins _ fs => Out.of (getF fs f) e
  | _ => .bad
/-- what the text says of a class: it is plain, and has no attribute of these names -/
structure ClsT (K : PySem.W.Frag) (T : Tx) (c : String) (fs : List Str) : Prop where
  cl : Cls K (T.cls c)
  no : ∀ f ∈ fs, NoAttr K (T.cls c) f
def eFldC (c : String) (f : Str) (fe : M D) : M D := fun env => (fe env).bind fun d e => match d with
  | .ins c' fs => if c' = c then Out.of (getF fs f) e else .bad
  | _ => .bad
theorem PX.fld {c : String} {fs : List Str} {f : Str} {o : Expr} {fo : M D} {pos : Pos} (C : ClsT X.K T c fs) (ho : PXB X T W o fo) (hf : f ∈ fs := by decide) (hb : attributeBase o f X.env (eval o X.env) = eval o X.env := by rfl) : PX X T W (.Attribute o f pos) (eFldC c f fo) := by
  obtain ⟨t, q, pa⟩ := ho.ex
  refine ⟨_, pe_fld q hb, fun g F H σ env Q S G => pa g F H σ env _ S (Goal.bind (fun _ h => h) G fun d e1 F1 H1 σ1 _ hs S1 E1 G1 v r => ?_)⟩
  subst hs
  cases d with
  | ins c' fd =>
    by_cases hc : c' = c
    · subst hc
      simp only [if_true] at G1
      cases eg : getF fd f with
      | none => rw [eg] at G1; exact G1.elim
      | some z =>
        rw [eg] at G1
        obtain ⟨a, dx, xs, rfl, ha, ra⟩ := r.ins
        obtain ⟨u, hu, ru⟩ := ra.get eg
        exact ⟨a, _, dx, xs, u, rfl, ha, C.cl, C.no f hf, hu, G1 F1 H1 σ1 rfl S1 .refl u ru⟩
    · simp only [if_neg hc] at G1
      exact G1.elim
  | _ => exact G1.elim
end
end Pu
namespace Pu
open PySem PySem.Spec L2
open PyProof.Rows hiding St
section
variable {X : Cx} {T : Tx} {W : WX}
/-! ## o.f = e, o a name whose slot is an instance's root -/
theorem RepF.put {F : Addr → Prop} {H : Hp} (f : Str) {d : D} {v : V} (r : Rep T F H d v) : ∀ {ds : List (Str × D)} {xs : List (Str × V)}, RepF T F H ds xs → RepF T F H (putFD f d ds) (putF f v xs)
  | _, _, .nil => .cons r .nil
  | (k, d') :: ds, (_, x) :: xs, .cons h1 h2 => by
    unfold putFD putF
    by_cases c : k = f
    · rw [if_pos c, if_pos c]; exact .cons r h2
    · rw [if_neg c, if_neg c]; exact .cons h1 (RepF.put f r h2)
theorem RepF.length {F : Addr → Prop} {H : Hp} : ∀ {ds : List (Str × D)} {xs : List (Str × V)}, RepF T F H ds xs → ds.length = xs.length
  | _, _, .nil => rfl
  | _, _, .cons _ h => by rw [List.length_cons, List.length_cons, RepF.length h]
def sSetF (c : String) (i : Nat) (f : Str) (fe : M D) : M Fl := fun env => (fe env).bind fun d e1 => match rootD e1 i with
  | some (.ins c' fs, mk) => if c' = c ∧ fs.length < 900 then .ok .nx (e1.set i (mk (.ins c' (putFD f d fs)))) else .bad
  | _ => .bad
theorem PXS.setF {c : String} {fs : List Str} {f x : Str} (i : Nat) {e : Expr} {fe : M D} {p p' pos : Pos} (C : ClsT X.K T c fs) (he : PX X T W e fe) (hf : f ∈ fs := by decide) (hs : swapsWith e (some (.Attribute (.Name x p) f p')) pos.line X.env = pure false := by rfl) (hN : X.N[i]? = some x := by rfl)
    (hv : Vis X.env.scope x := by first | exact Or.inl rfl | exact Or.inr (Or.inl rfl) | exact Or.inr (Or.inr rfl)) (hd : (x == ("__debug__" : Str)) = false := by decide) (hcd : (x == ("__classdict__" : Str)) = false := by decide) :
    PXS X T W (.Assign [.Attribute (.Name x p) f p'] e pos) (sSetF c i f fe) := by
  obtain ⟨te, qe, pe⟩ := he.ex
  refine ⟨_, ps_fld (pe_var hN hv hd hcd) qe hs, fun g F H σ env E S G => pe g F H σ env _ S (Goal.bind (fun _ _ => trivial) G fun d e1 F1 H1 σ1 _ hs S1 E1 G1 v r => ?_)⟩
  subst hs
  split at G1
  · rename_i c' fd mk er
    split at G1
    · rename_i hc
      obtain ⟨rfl, hl⟩ := hc
      obtain ⟨a, R⟩ := S1.atRoot er
      refine ⟨.ref a, look_eq R.lk, ?_⟩
      cases R.con with
      | @ins _ dx _ xs h1 h2 =>
        refine ⟨a, _, dx, xs, rfl, h1, C.cl, C.no f hf, by rw [← h2.length]; omega, ?_⟩
        have kp : Kp F1 H1 (upd H1 a (.ins (T.cls c') dx (putF f v xs))) := .upd R.nf R.con.nt
        obtain ⟨S2, E2⟩ := S1.mut er R (.ins (T.cls c') dx (putF f v xs)) (.ins upd_same ((h2.put f r).mono (fun _ h => h) kp))
        exact G1 F1 _ σ1 trivial S2 E2
    · exact G1.elim
  · exact G1.elim

/-! ## C(..) -/
section
variable {CX : CXT} {C f : Addr} {k : Nat} {fd : FuncData} {ps : List Str} {sp : Sp} {E : St → XK} {x : Str} {p pos : Pos} {e : Expr} {es : List Expr} {t : TA}
/-- a new instance by its __init__; what is raised is wished for at the caller's slots -/
def tMakeS (C : Addr) (sp : Sp) (E : St → XK) (t : TA) : TE := fun σ H Q => t σ H fun vs H1 => ∀ x dx, H1 x = none → H1 dx = none → dx ≠ x →
  sp (.ref x :: vs) (upd (upd H1 dx (.own x)) x (.ins C dx [])) (fun v H2 => v = .non ∧ Q (.ref x) H2) (E σ)
theorem pe_makeS (M : Mk X.K C f) (F : FnOk X.prog X.w X.K X.mg X.base CX k f fd ps sp) (hr : Room (k + 1) X.A) (hg : Gl X x) (hm : X.mg x = some (.ref C)) (hb : Binds X.K fd ps []) (hx : ∀ σ, PassesAt CX X σ (E σ))
    (ha : PA X (e :: es) t) (hdb : (x == ("__debug__" : Str)) = false := by decide) (he : starEach (e :: es) X.env = (false, eval e X.env) :: starEach es X.env := by rfl) (hpl : (backTo pos (starEach es X.env)).any (·.1) = false := by rfl) :
    PE X (.Call (.Name x p) (e :: es) [] pos) (tMakeS C sp E t) := by
  refine ⟨fun pins s σ H Q I h => ?_⟩
  refine wpAny_Call_Name_kw (ld_glob I hg hm ?_ hdb)
  refine PySem.W.callWith_K (h₀ := X.base) I.ok.mod.kin M.kp (thn (ha.run pos pins s σ H _ I h) fun us s1 ⟨vs, H1, I1, r, q⟩ => ⟨I1.kIn, ?_⟩) he hpl
  -- the new instance's dict at the heap's end, itself behind it
  have hq := q (s1.heap.objs.size + 1) s1.heap.objs.size (I1.hok.fresh (Nat.le_succ _)) (I1.hok.fresh (Nat.le_refl _)) (Nat.ne_of_lt (Nat.lt_succ_self _))
  have J := Inv.made (C := C) I1
  have rr : Vals (V.ref (s1.heap.objs.size + 1) :: vs) (Value.ref (s1.heap.objs.size + 1) :: us) := .cons rfl r
  have hlen : (Value.ref (s1.heap.objs.size + 1) :: us ++ []).length = ps.length := by
    rw [List.append_nil, ← rr.length]
    exact F.len _ _ _ _ hq
  have hbind := hb _ (Value.ref (s1.heap.objs.size + 1) :: us) J.kIn hlen
  rw [List.append_nil] at hbind
  refine wpAny_call (make_map (f := f) I1.kIn M.makes M.init (beq_iff_eq.mp M.fn) (codeAny_mono (F.run _ X.stack _ _ ⟨Value.ref (s1.heap.objs.size + 1) :: us, []⟩ (Value.ref (s1.heap.objs.size + 1) :: us) _ _ (E σ) (hr.make C us [])
    (J.env0.make C us []) hbind rr hq) fun z s' hz => ?_))
  cases z with
  | error er => exact hx σ pins _ _ er s' J hz
  | ok fl =>
    cases fl with
    | ret u =>
      obtain ⟨v, H', I3, rv, ev, q3⟩ := J.after hz
      subst ev
      exact ⟨rv, V.ref (s1.heap.objs.size + 1), H', I3, rfl, q3⟩
    | next => exact hz.elim
    | brk => exact hz.elim
    | cont => exact hz.elim
end
def madeOf (e1 : En) : FRes → Out D
  | .ok .non _ [(0, d)] => .ok d e1
  | .exc x _ => .exc x e1
  | _ => .bad
def mMake (n : Nat) (c : String) (fn : Fn) (fa : M (List Av)) : M D := fun env => (fa env).bind fun as e1 => if fn.io = [0] ∧ as.length + 1 = n then match allVal as with
    | some ds => madeOf e1 (fn.run (.ins c [] :: ds))
    | none => .bad
  else .bad
theorem PXO.make {c : String} {f : Addr} {k n : Nat} {fd : FuncData} {ps : List Str} {x : Str} {p pos : Pos} {e : Expr} {es : List Expr} {fn : Fn} {fa : M (List Av)} (Mm : Mk X.K (T.cls c) f) (Fk : FnOk X.prog X.w X.K X.mg X.base (L2.CX X.prog X.w) k f fd ps (spF T n fn)) (hr : Room (k + 1) X.A)
    (hm : X.mg x = some (.ref (T.cls c))) (hb : Binds X.K fd ps []) (tk : Takes X W) (ha : PXA X T W (e :: es) fa) (hg : Gl X x := by rfl) (hdb : (x == ("__debug__" : Str)) = false := by decide) (he : starEach (e :: es) X.env = (false, eval e X.env) :: starEach es X.env := by rfl) (hpl : (backTo pos (starEach es X.env)).any (·.1) = false := by rfl) :
    PXO X T W (.Call (.Name x p) (e :: es) [] pos) (mMake n c fn fa) := by
  obtain ⟨t, q, pa⟩ := ha.ex
  refine ⟨_, pe_makeS Mm Fk hr hg hm hb (fun σ => passAt tk σ) q hdb he hpl, fun g F H σ env Q S G => ?_⟩
  refine pa g F H σ env _ S (Goal.bind (fun _ h => h) G fun as e1 F1 H1 σ1 _ hs S1 E1 G1 vs rs a dx ha hdx ne => ?_)
  subst hs
  split at G1
  · rename_i cc
    obtain ⟨hio, hlen⟩ := cc
    split at G1
    · rename_i ds hall
      have rl := rs.all hall
      obtain ⟨S2, E2⟩ := S1.loose hdx (.own a)
      have ha2 : upd H1 dx (.own a) a = none := by rw [upd_ne (Ne.symm ne)]; exact ha
      obtain ⟨S3, E3⟩ := S2.loose ha2 (.ins (T.cls c) dx [])
      obtain ⟨n1, n2, n3, n4, n5⟩ := S1.free ha
      have rl3 := (rl.mono E2.f E2.k).mono E3.f E3.k
      have nr3 : ¬ Roots σ1 e1 a := S1.noroot ha
      have hlv : vs.length + 1 = n := by rw [← rs.len]; exact hlen
      have AR : ArgR T F1 (upd (upd H1 dx (.own a)) a (.ins (T.cls c) dx [])) fn.io (.ins c [] :: ds) (.ref a :: vs) := by
        refine ⟨by rw [List.length_cons, List.length_cons, rl.length], fun i d hd hi => ?_, fun i d hd hi => ?_, fun i j b ij hi hj => ?_⟩
        · cases i with
          | zero => exact absurd (by rw [hio]; exact List.mem_cons_self) hi
          | succ i =>
            obtain ⟨v, h1, h2⟩ := rl3.get (i := i) (d := d) (by simpa using hd)
            exact ⟨v, by simpa using h1, h2⟩
        · rw [hio] at hi
          obtain rfl : i = 0 := by simpa using hi
          cases hd
          exact ⟨a, rfl, n1, .ins upd_same .nil⟩
        · rw [hio] at hi hj
          have e1 : i = 0 := by simpa using hi
          have e2 : j = 0 := by simpa using hj
          exact absurd (e1.trans e2.symm) ij
      refine ⟨by rw [List.length_cons]; exact hlv, _, F1, AR, S3.fdom, ?_⟩
      have fin : ∀ ios F' H', After T fn.io (.ref a :: vs) F1 (upd (upd H1 dx (.own a)) a (.ins (T.cls c) dx [])) ios F' H' → St8 T g F' H' σ1 e1 ∧ Ext g F1 H1 F' H' := fun ios F' H' A => by
        obtain ⟨S4, E4⟩ := S3.called (fun b => b = a) (fun b hb => by subst hb; exact ⟨n1, n2, .inl n3, nr3, fun xs e => by rw [upd_same] at e; cases e⟩) A.f A.new A.dom (fun b o h n => A.keep b o h fun i hi hv => by
            rw [hio] at hi
            obtain rfl : i = 0 := by simpa using hi
            cases hv
            exact n rfl) (fun b hb => by
            subst hb
            obtain ⟨_, d, _, cc⟩ := A.rts 0 (by rw [hio]; exact List.mem_cons_self) b rfl
            obtain ⟨o, q, _⟩ := cc.there
            exact ⟨o, q⟩)
        exact ⟨S4, (E2.trans E3).trans E4⟩
      cases er : fn.run (.ins c [] :: ds) with
      | bad => rw [er] at G1; exact G1.elim
      | exc x ios =>
        rw [er] at G1
        intro F' H' dd A r
        obtain ⟨S4, E4⟩ := fin ios F' H' A
        exact G1 F' H' σ1 dd rfl S4 E4 r
      | ok d own ios =>
        rw [er] at G1
        unfold madeOf at G1
        split at G1
        · rename_i d0 heq
          cases heq
          have ends : ∀ F' H' v, After T fn.io (.ref a :: vs) F1 (upd (upd H1 dx (.own a)) a (.ins (T.cls c) dx [])) [(0, d0)] F' H' → Rep T F' H' .non v → v = V.non ∧ Q (.ref a) H' := fun F' H' v A r => by
            cases r
            obtain ⟨S4, E4⟩ := fin _ F' H' A
            obtain ⟨nf, d1, md, cc⟩ := A.rts 0 (by rw [hio]; exact List.mem_cons_self) a rfl
            obtain rfl : d1 = d0 := by simpa using md
            exact ⟨rfl, G1 F' H' σ1 rfl S4 E4 _ ⟨a, rfl, nf, n2, n3, nr3, cc⟩⟩
          cases own with
          | false => exact fun F' H' v A r => ends F' H' v A r
          | true =>
            intro F' H' b A _ _ cc
            cases cc
        · rename_i heq
          cases heq
        · exact G1.elim
    · exact G1.elim
  · exact G1.elim

/-! ## raise -/
def sRaise (c : String) : M Fl := fun env => .exc ⟨c, []⟩ env
/-- what the text says of an own exception class without fields, over ValueError -/
structure ExT (X : Cx) (T : Tx) (c : String) : Prop where
  bm : ∃ bmB : List Value, PySem.W.excIn X.K (T.cls c) bmB "ValueError.__new__" = true ∧ ExcBaseFacts "ValueError" "ValueError.__new__" "ValueError.__init__" bmB
  kp : PySem.W.keepIn X.K (.ref (T.cls c)) = true
  sb : PySem.W.subIn X.K (.ref (T.cls c)) (.type "BaseException") = some true
  ty : PySem.W.typeIn X.K (.ref (T.cls c)) = some (.type "type")
theorem pmk_zero {C : Addr} {bmB : List Value} {B newId initId : String} {x : Str} {p pos : Pos} (F : ExcBaseFacts B newId initId bmB) (q : PySem.W.excIn X.K C bmB newId = true) (gC : X.mg x = some (.ref C)) (kC : PySem.W.keepIn X.K (.ref C) = true) (r : Raises X (.ref C)) (hg : Gl X x)
    (hdb : (x == ("__debug__" : Str)) = false := by decide) : PMk X (.Call (.Name x p) [] [] pos) (fun _ H Q => Q (.ref C) none H) := by
  intro pins s σ H Q I h
  refine wpAny_Call_Name_kw (ld_glob I hg gC ?_ hdb)
  refine PySem.W.callWith_K0 (first := []) I.kIn kC ?_
  obtain ⟨bm, N, nm, qn, bs, hdct, sn, sub, ab, col, dd, k0, k1, k2, k3, k5, mN, hC, hN, hni, T⟩ := exc_obj I.kIn q
  exact wpAny_call_exc_subT F T hC hN hni (fun h' e hm => mk_of I hm r h (I.hok.gone hm.new)) (by rw [sizeLine_eq]; decide)
theorem PXS.raise0 {c : String} {x : Str} {p pos pos2 : Pos} (C : ExT X T c) (hc : X.calm = true) (gC : X.mg x = some (.ref (T.cls c))) (tk : Takes X W) (hg : Gl X x := by rfl) (hdb : (x == ("__debug__" : Str)) = false := by decide) :
    PXS X T W (.Raise (some (.Call (.Name x p) [] [] pos)) none pos2) (sRaise c) := by
  obtain ⟨bmB, q, Fb⟩ := C.bm
  refine ⟨_, ps_raise hc tk (pmk_zero Fb q gC C.kp (raises_own C.sb C.ty) hg hdb), fun g F H σ env E S G => ?_⟩
  exact G F H σ none trivial S .refl (.inl ⟨rfl, rfl⟩)
end
end Pu
/-! a heap: heappush, heappop on a list -/
namespace PuH
open PySem PySem.Spec PyProof.Rows PySem.W
theorem en_sift : entryFor table "_heapq.heapify.sift" = some Builtin.«_heapq.heapify.sift» := entryFor_of_tree (by kernel_rfl)
theorem en_push : entryFor table "_heapq.heappush" = some Builtin.«_heapq.heappush» := entryFor_of_tree (by kernel_rfl)
theorem en_pop : entryFor table "_heapq.heappop" = some Builtin.«_heapq.heappop» := entryFor_of_tree (by kernel_rfl)
theorem pl_sift : plainId "_heapq.heapify.sift" = true := by decide +kernel
theorem pl_push : plainId "_heapq.heappush" = true := by decide +kernel
theorem pl_pop : plainId "_heapq.heappop" = true := by decide +kernel
/-! ## the sifting, over any order -/
section
variable {α : Type} (lt : α → α → Bool)
def swp (xs : List α) (i j : Nat) : List α := match xs[i]?, xs[j]? with
  | some x, some y => (xs.set i y).set j x
  | _, _ => xs
def hUp : Nat → Nat → List α → List α
  | 0, _, xs => xs
  | f + 1, pos, xs => if pos = 0 then xs else match xs[pos]?, xs[(pos - 1) / 2]? with
    | some x, some p => if lt x p = true then hUp f ((pos - 1) / 2) (swp xs ((pos - 1) / 2) pos) else xs
    | _, _ => xs
def hKid (pos : Nat) (xs : List α) : Nat := if 2 * pos + 2 < xs.length then match xs[2 * pos + 1]?, xs[2 * pos + 2]? with
    | some l, some r => if lt l r = true then 2 * pos + 1 else 2 * pos + 2
    | _, _ => 2 * pos + 1
  else 2 * pos + 1
def hDown : Nat → Nat → List α → List α
  | 0, _, xs => xs
  | f + 1, pos, xs => if pos < xs.length / 2 then hDown f (hKid lt pos xs) (swp xs (hKid lt pos xs) pos) else hUp lt (xs.length + 1) pos xs
def hPush (xs : List α) (v : α) : List α := hUp lt (xs.length + 2) xs.length (xs ++ [v])
/-- what is taken, what is left -/
def hPop (xs : List α) : Option (α × List α) := match xs with
  | [] => none
  | [x] => some (x, [])
  | x :: y :: r => some (x, hDown lt (r.length + 4) 0 (((x :: y :: r).dropLast).set 0 ((y :: r).getLast (by simp))))
theorem swp_len (xs : List α) (i j : Nat) : (swp xs i j).length = xs.length := by
  unfold swp
  split
  · rw [List.length_set, List.length_set]
  · rfl
theorem swp_perm (xs : List α) (i j : Nat) : (swp xs i j).Perm xs := by
  unfold swp
  split
  · rename_i x y hx hy
    by_cases e : i = j
    · subst e
      rw [hx] at hy
      cases hy
      obtain ⟨h1, h2⟩ := List.getElem?_eq_some_iff.mp hx
      rw [List.set_set, ← h2, List.set_getElem_self]
    · obtain ⟨h1, h2⟩ := List.getElem?_eq_some_iff.mp hx
      obtain ⟨h3, h4⟩ := List.getElem?_eq_some_iff.mp hy
      subst h2 h4
      exact List.set_set_perm h1 h3
  · exact .refl _
end
section
variable {P : Program} {w : World} {A : Around} {E : Value → Shared → Prop}
/-- what was there before, but for a, stands -/
def Kq (h0 h : Heap) (a : Addr) : Prop := ∀ b o, b ≠ a → h0.get? b = some o → h.get? b = some o
theorem Kq.upd {h0 h : Heap} {a : Addr} (k : Kq h0 h a) (f : Obj → Obj) : Kq h0 (h.update a f) a := fun b o hb e => (Heap.get?_update_other h f (Ne.symm hb)).trans (k b o hb e)
/-- the members can be compared wherever what was there before stands -/
def Cmp (A : Around) (h0 : Heap) (s : Shared) (a : Addr) (S : Value → Prop) (lt : Value → Value → Bool) : Prop :=
  ∀ h tk, Kq h0 h a → ∀ x y, S x → S y → Ob.RcOp .Lt A { s with heap := h, toks := tk } x y (lt x y)
theorem swp_arr {xs : List Value} {i j : Nat} {x y : Value} (hx : xs[i]? = some x) (hy : xs[j]? = some y) : (xs.toArray.setIfInBounds i y).setIfInBounds j x = (swp xs i j).toArray := by
  unfold swp
  simp [hx, hy]
theorem at_eq {arr : Array Value} {i : Nat} {v : Value} (h : arr[i]? = some v) : (match arr[i]? with
    | some v => (pure v : Sem Value)
    | none => unsupported "internal:_heapq.index") = pure v := by rw [h]
theorem up_run {a : Addr} {h0 : Heap} {S : Value → Prop} {lt : Value → Value → Bool} {s0 : Shared} {res : Value} {R : Result → Shared → Prop} (C : Cmp A.in1 h0 s0 a S lt) :
    ∀ (f pos : Nat) (xs : List Value) (n : Nat) (t t' t'' : Tok) (h : Heap) (tk : Nat), pos < f → pos < xs.length → xs.length ≤ sizeLine → (∀ x ∈ xs, S x) → IsL h a xs.toArray n → Kq h0 h a →
      (∀ h' tk' n', IsL h' a (hUp lt f pos xs).toArray n' → Kq h0 h' a → Kq h h' a → R (.ok (.ret res)) { s0 with heap := h', toks := tk' }) →
      codeAny (model P w) A (.builtin "_heapq.heapify.sift" ⟨[.ref a, .bool false, .bool false, .int pos t, .int 0 t', res, .int (-1) t''], []⟩) R { s0 with heap := h, toks := tk }
  | 0, pos, xs, n, t, t', t'', h, tk, hf, _, _, _, _, _, _ => absurd hf (Nat.not_lt_zero _)
  | f + 1, pos, xs, n, t, t', t'', h, tk, hf, hp, hz, hS, hl, hk, hR => by
    refine codeAny_builtin en_sift ?_
    rw [Around.under_plainId pl_sift _]
    unfold Builtin.«_heapq.heapify.sift»
    dsimp only
    refine wpAny_bind (wpAny_bind (wpAny_seqItems hl rfl (wpAny_pure ?_)))
    rw [if_neg Bool.false_ne_true]
    have ep : ((pos : Int)).toNat = pos := Int.toNat_natCast pos
    have e0 : Int.toNat 0 = 0 := rfl
    by_cases c : pos = 0
    · subst c
      rw [if_neg (by simp)]
      rw [if_pos (by decide)]
      refine wpAny_bind (wpAny_pure (wpAny_pure ?_))
      have e : hUp lt (f + 1) 0 xs = xs := by unfold hUp; rw [if_pos rfl]
      rw [e] at hR
      exact hR h tk n hl hk (fun _ _ _ z => z)
    · rw [ep, e0, if_pos (by omega : pos > 0)]
      obtain ⟨x, hx⟩ : ∃ x, xs[pos]? = some x := ⟨xs[pos], List.getElem?_eq_getElem hp⟩
      have hpp : (pos - 1) / 2 < xs.length := by omega
      obtain ⟨p, hpx⟩ : ∃ p, xs[(pos - 1) / 2]? = some p := ⟨xs[(pos - 1) / 2], List.getElem?_eq_getElem hpp⟩
      have ex : xs.toArray[pos]? = some x := by simpa using hx
      have epx : xs.toArray[(pos - 1) / 2]? = some p := by simpa using hpx
      refine wpAny_bind (wpAny_of_eq (a := x) (at_eq ex) ?_)
      refine wpAny_bind (wpAny_of_eq (a := p) (at_eq epx) ?_)
      have sx := hS x (List.mem_of_getElem? hx)
      have sp := hS p (List.mem_of_getElem? hpx)
      have less := C h tk hk x p sx sp
      rw [if_neg Bool.false_ne_true]
      refine wpAny_bind (wpAny_bind (wpAny_holding (wpAny_bind (less P w _ _ (wpAny_truthy_bool ?_)))))
      refine wpAny_bind (wpAny_bind (wpAny_seqItems hl rfl (wpAny_pure ?_)))
      rw [if_neg (by simp)]
      refine wpAny_pure ?_
      have eu : hUp lt (f + 1) pos xs = if lt x p = true then hUp lt f ((pos - 1) / 2) (swp xs ((pos - 1) / 2) pos) else xs := by
        rw [hUp, if_neg c, hx, hpx]
      by_cases cl : lt x p = true
      · rw [if_pos cl]
        rw [if_pos cl] at eu
        rw [eu] at hR
        refine wpAny_bind (wpAny_bind (wpAny_bind (wpAny_seqItems hl rfl (wpAny_pure ?_))))
        refine wpAny_bind (wpAny_of_eq (a := p) (at_eq epx) ?_)
        refine wpAny_bind (wpAny_of_eq (a := x) (at_eq ex) ?_)
        have hl2 := hl.update (fun xs => (xs.setIfInBounds ((pos - 1) / 2) x).setIfInBounds pos p)
        rw [swp_arr hpx hx] at hl2
        refine wpAny_updateSeq hl rfl ?_ (by rw [List.size_toArray]; exact hz) (by simp; omega)
        refine wpAny_pure ⟨plainId_quiet pl_sift _, ?_⟩
        refine up_run C f ((pos - 1) / 2) (swp xs ((pos - 1) / 2) pos) _ 0 0 0 _ tk (by omega) (by rw [swp_len]; exact hpp) (by rw [swp_len]; exact hz) (fun z hz => hS z ((swp_perm _ _ _).mem_iff.mp hz)) hl2 (hk.upd _) fun h' tk' n' i1 i2 i3 => hR h' tk' n' i1 i2 fun b o hb e => i3 b o hb ((Heap.get?_update_other h _ (Ne.symm hb)).trans e)
      · rw [if_neg cl]
        rw [if_neg cl] at eu
        rw [eu] at hR
        rw [if_pos (by decide)]
        refine wpAny_bind (wpAny_pure (wpAny_pure ?_))
        exact hR h tk n hl hk (fun _ _ _ z => z)
theorem down_run {a : Addr} {h0 : Heap} {S : Value → Prop} {lt : Value → Value → Bool} {s0 : Shared} {res : Value} {R : Result → Shared → Prop} (C : Cmp A.in1 h0 s0 a S lt) :
    ∀ (f pos : Nat) (xs : List Value) (n : Nat) (t t' t'' : Tok) (h : Heap) (tk : Nat), xs.length < f + pos → pos < xs.length → xs.length ≤ sizeLine → (∀ x ∈ xs, S x) → IsL h a xs.toArray n → Kq h0 h a →
      (∀ h' tk' n', IsL h' a (hDown lt f pos xs).toArray n' → Kq h0 h' a → Kq h h' a → R (.ok (.ret res)) { s0 with heap := h', toks := tk' }) →
      codeAny (model P w) A (.builtin "_heapq.heapify.sift" ⟨[.ref a, .bool false, .bool true, .int pos t, .int 0 t', res, .int (-1) t''], []⟩) R { s0 with heap := h, toks := tk }
  | 0, pos, xs, n, t, t', t'', h, tk, hf, hp, _, _, _, _, _ => absurd hf (by omega)
  | f + 1, pos, xs, n, t, t', t'', h, tk, hf, hp, hz, hS, hl, hk, hR => by
    refine codeAny_builtin en_sift ?_
    rw [Around.under_plainId pl_sift _]
    unfold Builtin.«_heapq.heapify.sift»
    dsimp only
    refine wpAny_bind (wpAny_bind (wpAny_seqItems hl rfl (wpAny_pure ?_)))
    rw [if_pos rfl]
    have ep : ((pos : Int)).toNat = pos := Int.toNat_natCast pos
    have e0 : Int.toNat 0 = 0 := rfl
    have es : xs.toArray.size = xs.length := List.size_toArray
    rw [ep, e0, es]
    by_cases c : pos < xs.length / 2
    · rw [if_pos c]
      obtain ⟨y, hy⟩ : ∃ y, xs[pos]? = some y := ⟨xs[pos], List.getElem?_eq_getElem hp⟩
      have ey : xs.toArray[pos]? = some y := by simpa using hy
      obtain ⟨l, hL⟩ : ∃ l, xs[2 * pos + 1]? = some l := ⟨xs[2 * pos + 1]'(by omega), List.getElem?_eq_getElem (by omega)⟩
      have eL : xs.toArray[2 * pos + 1]? = some l := by simpa using hL
      have eD : hDown lt (f + 1) pos xs = hDown lt f (hKid lt pos xs) (swp xs (hKid lt pos xs) pos) := by rw [hDown, if_pos c]
      rw [eD] at hR
      -- the swap and what follows
      have fin : ∀ (kid : Nat) (x : Value), xs[kid]? = some x → pos < kid → hKid lt pos xs = kid → codeAny (model P w) A (.builtin "_heapq.heapify.sift" ⟨[.ref a, .bool false, .bool true, .int kid 0, .int 0 0, res, .int (-1) 0], []⟩) R { s0 with heap := h.update a (Obj.mapSeq fun xs => (xs.setIfInBounds kid y).setIfInBounds pos x), toks := tk } := fun kid x hx hlt ek => by
        have hl2 := hl.update (fun xs => (xs.setIfInBounds kid y).setIfInBounds pos x)
        rw [swp_arr hx hy] at hl2
        rw [ek] at hR
        have hkl := (List.getElem?_eq_some_iff.mp hx).1
        refine down_run C f kid (swp xs kid pos) _ 0 0 0 _ tk (by rw [swp_len]; omega) (by rw [swp_len]; exact hkl) (by rw [swp_len]; exact hz) (fun z hz => hS z ((swp_perm _ _ _).mem_iff.mp hz)) hl2 (hk.upd _) fun h' tk' n' i1 i2 i3 => hR h' tk' n' i1 i2 fun b o hb e => i3 b o hb ((Heap.get?_update_other h _ (Ne.symm hb)).trans e)
      by_cases c2 : 2 * pos + 1 + 1 < xs.length
      · rw [if_pos c2]
        obtain ⟨r, hr⟩ : ∃ r, xs[2 * pos + 1 + 1]? = some r := ⟨xs[2 * pos + 1 + 1]'c2, List.getElem?_eq_getElem c2⟩
        have er : xs.toArray[2 * pos + 1 + 1]? = some r := by simpa using hr
        refine wpAny_bind (wpAny_of_eq (a := l) (at_eq eL) ?_)
        refine wpAny_bind (wpAny_of_eq (a := r) (at_eq er) ?_)
        have less := C h tk hk l r (hS l (List.mem_of_getElem? hL)) (hS r (List.mem_of_getElem? hr))
        rw [if_neg Bool.false_ne_true]
        refine wpAny_bind (wpAny_bind (wpAny_holding (wpAny_bind (less P w _ _ (wpAny_truthy_bool ?_)))))
        refine wpAny_bind (wpAny_bind (wpAny_seqItems hl rfl (wpAny_pure ?_)))
        rw [if_neg (by simp)]
        refine wpAny_pure ?_
        have ek : hKid lt pos xs = if lt l r = true then 2 * pos + 1 else 2 * pos + 2 := by
          have c3 : 2 * pos + 2 < xs.length := c2
          have hr' : xs[2 * pos + 2]? = some r := hr
          unfold hKid
          rw [if_pos c3, hL, hr']
        by_cases cl : lt l r = true
        · rw [if_pos cl] at ek
          rw [if_neg (by rw [cl]; decide)]
          refine wpAny_bind (wpAny_bind (wpAny_bind (wpAny_seqItems hl rfl (wpAny_pure ?_))))
          refine wpAny_bind (wpAny_of_eq (a := l) (at_eq eL) ?_)
          refine wpAny_bind (wpAny_of_eq (a := y) (at_eq ey) ?_)
          refine wpAny_updateSeq hl rfl ?_ (by rw [List.size_toArray]; exact hz) (by simp; omega)
          exact wpAny_pure ⟨plainId_quiet pl_sift _, fin _ l hL (by omega) ek⟩
        · rw [if_neg cl] at ek
          rw [if_pos (by simp [cl])]
          refine wpAny_bind (wpAny_bind (wpAny_bind (wpAny_seqItems hl rfl (wpAny_pure ?_))))
          refine wpAny_bind (wpAny_of_eq (a := r) (at_eq er) ?_)
          refine wpAny_bind (wpAny_of_eq (a := y) (at_eq ey) ?_)
          refine wpAny_updateSeq hl rfl ?_ (by rw [List.size_toArray]; exact hz) (by simp; omega)
          exact wpAny_pure ⟨plainId_quiet pl_sift _, fin _ r hr (by omega) ek⟩
      · rw [if_neg c2]
        have ek : hKid lt pos xs = 2 * pos + 1 := by
          unfold hKid
          rw [if_neg (by omega)]
        refine wpAny_bind (wpAny_bind (wpAny_bind (wpAny_seqItems hl rfl (wpAny_pure ?_))))
        refine wpAny_bind (wpAny_of_eq (a := l) (at_eq eL) ?_)
        refine wpAny_bind (wpAny_of_eq (a := y) (at_eq ey) ?_)
        refine wpAny_updateSeq hl rfl ?_ (by rw [List.size_toArray]; exact hz) (by simp; omega)
        exact wpAny_pure ⟨plainId_quiet pl_sift _, fin _ l hL (by omega) ek⟩
    · rw [if_neg c]
      have eD : hDown lt (f + 1) pos xs = hUp lt (xs.length + 1) pos xs := by rw [hDown, if_neg c]
      rw [eD] at hR
      exact wpAny_pure ⟨plainId_quiet pl_sift _, up_run C (xs.length + 1) pos xs n 0 0 0 h tk (by omega) hp hz hS hl hk hR⟩
theorem kn_push : builtinKind "_heapq.heappush" = none := by kernel_rfl
theorem kn_pop : builtinKind "_heapq.heappop" = none := by kernel_rfl
theorem ar_push (u v : Value) : argsOk "_heapq.heappush" ⟨[u, v], []⟩ := by unfold argsOk; kernel_rfl
theorem ar_pop (u : Value) : argsOk "_heapq.heappop" ⟨[u], []⟩ := by unfold argsOk; kernel_rfl
abbrev AnyEnd (B : Sem Fin) : PySem.Spec := fun A R s => ∀ (P : Program) (w : World), wpAny (model P w) A.in1 B (fun z u => match z with | .done f => R (.ok f) u | .again c => c.quiet = true ∧ codeAny (model P w) A c R u) (fun e u => R (.error e) u) s
theorem list_isinst {a : Addr} {xs : Array Value} {n : Nat} {s : Shared} {Q : Bool → Shared → Prop} {M : Model} {B : Around} {E : Value → Shared → Prop} (hl : IsL s.heap a xs n) (h : Q true s) : wpAny M B (isInstance (.ref a) (.type "list")) Q E s := by
  unfold isInstance
  refine wpAny_bind (wpAny_typeOf (T := "list") ⟨_, hl, rfl⟩ ?_)
  exact wpAny_of_eq sub_list_self h
theorem push_run {a : Addr} {v : Value} {S : Value → Prop} {lt : Value → Value → Bool} {s : Shared} {xs : List Value} {n : Nat} {Q : Value → Shared → Prop} (C : Cmp A.in1 s.heap s a S lt) (hz : xs.length < sizeLine) (hS : ∀ x ∈ xs, S x) (hv : S v) (hl : IsL s.heap a xs.toArray n)
    (hQ : ∀ h' tk' n', IsL h' a (hPush lt xs v).toArray n' → Kq s.heap h' a → Q .none { s with heap := h', toks := tk' }) : wpAny (model P w) A (call (.builtin "_heapq.heappush") [.ref a, v]) Q E s := by
  refine call_function_meets (S := AnyEnd _) kn_push pl_push en_push (ar_push _ _) (fun P w A R s h => h P w) fun P w => ?_
  unfold Builtin.«_heapq.heappush»
  refine wpAny_bind ?_
  refine wpAny_bind (wpAny_pure ?_)
  refine wpAny_bind (wpAny_pure ?_)
  refine wpAny_bind (wpAny_bind (list_isinst hl ?_))
  refine wpAny_of_eq (a := a) rfl (wpAny_pure ?_)
  refine wpAny_bind (wpAny_updateSeq hl rfl ?_ (by rw [List.size_toArray]; omega) (by simp; omega))
  have hl2 := hl.update (fun xs => xs.push v)
  have ea : xs.toArray.push v = (xs ++ [v]).toArray := by simp
  have hz2 : (xs ++ [v]).length ≤ sizeLine := by simp; omega
  rw [ea] at hl2
  refine wpAny_bind (wpAny_bind (wpAny_seqItems hl2 rfl (wpAny_pure ?_)))
  have el : (xs ++ [v]).toArray.size - 1 = xs.length := by simp
  rw [el]
  refine wpAny_pure ⟨plainId_quiet pl_sift _, ?_⟩
  exact up_run (h0 := s.heap) (s0 := s) C (xs.length + 2) xs.length (xs ++ [v]) _ 0 0 0 _ s.toks (by omega) (by simp) hz2 (fun x hx => by
    rcases List.mem_append.mp hx with q | q
    · exact hS x q
    · rw [List.mem_singleton.mp q]; exact hv) hl2 (Kq.upd (fun _ _ _ z => z) _) fun h' tk' n' i1 i2 _ => hQ h' tk' n' i1 i2
theorem pop_run {a : Addr} {S : Value → Prop} {lt : Value → Value → Bool} {s : Shared} {xs : List Value} {n : Nat} {Q : Value → Shared → Prop} {v : Value} {r : List Value} (C : Cmp A.in1 s.heap s a S lt) (hz : xs.length ≤ sizeLine) (hS : ∀ x ∈ xs, S x) (hl : IsL s.heap a xs.toArray n) (hp : hPop lt xs = some (v, r))
    (hQ : ∀ h' tk' n', IsL h' a r.toArray n' → Kq s.heap h' a → Q v { s with heap := h', toks := tk' }) : wpAny (model P w) A (call (.builtin "_heapq.heappop") [.ref a]) Q E s := by
  refine call_function_meets (S := AnyEnd _) kn_pop pl_pop en_pop (ar_pop _) (fun P w A R s h => h P w) fun P w => ?_
  unfold Builtin.«_heapq.heappop»
  refine wpAny_bind (wpAny_bind (wpAny_pure ?_))
  refine wpAny_bind (wpAny_bind (list_isinst hl ?_))
  refine wpAny_of_eq (a := a) rfl (wpAny_pure ?_)
  refine wpAny_bind (wpAny_bind (wpAny_seqItems hl rfl (wpAny_pure ?_)))
  match xs, hp, hl, hS, hz with
  | [], hp, _, _, _ => cases hp
  | [x], hp, hl, _, _ =>
    cases hp
    refine wpAny_bind (wpAny_updateSeq hl rfl ?_ (by simp; rw [sizeLine_eq]; omega) (by simp))
    rw [if_pos (by simp)]
    have hl2 := hl.update (fun xs => xs.pop)
    refine wpAny_bind (wpAny_pure (wpAny_pure ?_))
    exact hQ _ s.toks _ hl2 (Kq.upd (fun _ _ _ z => z) _)
  | x :: y :: r0, hp, hl, hS, hz =>
    have eb : (x :: y :: r0).toArray.back? = some ((y :: r0).getLast (by simp)) := by
      rw [List.back?_toArray, List.getLast?_cons_cons, List.getLast?_eq_some_getLast (by simp)]
    have em : S ((y :: r0).getLast (by simp)) := hS _ (List.mem_cons_of_mem _ (List.getLast_mem _))
    obtain ⟨rfl, rfl⟩ : x = v ∧ hDown lt (r0.length + 4) 0 (((x :: y :: r0).dropLast).set 0 ((y :: r0).getLast (by simp))) = r := by
      have e := Option.some.inj hp
      exact ⟨congrArg Prod.fst e, congrArg Prod.snd e⟩
    generalize (y :: r0).getLast (by simp) = last at eb em hQ
    rw [eb]
    dsimp only
    have z1 : (x :: y :: r0).toArray.size ≤ sizeLine := by rw [List.size_toArray]; exact hz
    refine wpAny_bind (wpAny_updateSeq hl rfl ?_ z1 (by rw [Array.size_pop]; omega))
    rw [if_neg (by simp)]
    have ex : (x :: y :: r0).toArray[0]? = some x := by simp
    refine wpAny_bind (wpAny_of_eq (a := x) (at_eq ex) ?_)
    have hl2 := hl.update (fun xs => xs.pop)
    have e2 : (x :: y :: r0).toArray.pop = ((x :: y :: r0).dropLast).toArray := by simp
    rw [e2] at hl2
    have z2 : ((x :: y :: r0).dropLast).length ≤ sizeLine := by rw [List.length_dropLast]; omega
    refine wpAny_bind (wpAny_updateSeq hl2 rfl ?_ (by rw [List.size_toArray]; exact z2) (by rw [Array.size_setIfInBounds, List.size_toArray]; omega))
    have hl3 := hl2.update (fun xs => xs.setIfInBounds 0 last)
    have e3 : ((x :: y :: r0).dropLast).toArray.setIfInBounds 0 last = (((x :: y :: r0).dropLast).set 0 last).toArray := by simp
    rw [e3] at hl3
    have hlen : (((x :: y :: r0).dropLast).set 0 last).length = r0.length + 1 := by simp
    refine wpAny_pure ⟨plainId_quiet pl_sift _, ?_⟩
    refine down_run (h0 := s.heap) (s0 := s) C (r0.length + 4) 0 (((x :: y :: r0).dropLast).set 0 last) _ 0 0 0 _ s.toks (by rw [hlen]; omega) (by rw [hlen]; omega) (by rw [hlen]; have := hz; simp at this; omega) (fun u hu => ?_) hl3 (Kq.upd (Kq.upd (fun _ _ _ z => z) _) _) fun h' tk' n' i1 i2 _ => hQ h' tk' n' i1 i2
    rcases List.mem_or_eq_of_mem_set hu with q | q
    · exact hS u ((List.dropLast_sublist _).subset q)
    · rw [q]; exact em
end
end PuH
namespace Pu
open PySem PySem.Spec L2
open PyProof.Rows hiding St
section
variable {X : Cx} {T : Tx} {W : WX}

/-! ## try .. except C as n: suite -/
def Out.unhd (i : Nat) : Out Fl → Out Fl
  | .ok fl e => if noHd (e.set i .no) = true ∧ i < e.length then .ok fl (e.set i .no) else .bad
  | _ => .bad
/-- tbl: is an exception of the named class one of the clause's? -/
def sTry (i : Nat) (tbl : String → Option Bool) (fb : M Fl) (fs : Exn → M Fl) : M Fl := fun env => match fb env with
  | .exc x e => match tbl x.c with
    | some true => if noHd e = true ∧ i < e.length then (fs x (e.set i (.hd x.fs))).unhd i else .bad
    | some false => .exc x e
    | none => .bad
  | o => o
def cS (T : Tx) (W : WX) (f : M Fl) : TS := fun D σ H => ∃ g F env, St8 T g F H σ env ∧ SGo T g W F H D (f env)
theorem PXSs.canon {e : List Stmt} {f : M Fl} (h : PXSs X T W e f) : PSs X e (cS T W f) := by
  obtain ⟨t, q, p⟩ := h.ex
  exact ⟨fun pins s σ H D I ⟨g, F, env, S, G⟩ => q.run pins s σ H D I (p g F H σ env D S G)⟩
theorem Tx.at_eq (T : Tx) (a : Addr) (d : Option Addr) : Tx.Eq T (T.at a d) := ⟨rfl, rfl, rfl⟩
theorem Tx.eq_at (T : Tx) (a : Addr) (d : Option Addr) : Tx.Eq (T.at a d) T := ⟨rfl, rfl, rfl⟩
theorem XRep.tx {T' : Tx} {F : Addr → Prop} {H : Hp} {x : Exn} {dd : Option Addr} (t : Tx.Eq T T') (r : XRep T F H x dd) : XRep T' F H x dd := by
  rcases r with r | ⟨n, d, xs, h1, h2, h3, h4⟩
  · exact .inl r
  · exact .inr ⟨n, d, xs, h1, h2, h3, h4.tx t⟩
theorem PXS.tryAs (i : Nat) (tbl : String → Option Bool) {x n : Str} {c : Value} {body suite : List Stmt} {b₀ : Stmt} {np pos pos' : Pos} {fb : M Fl} {fs : Exn → M Fl} (hs : X.stack = X.env :: X.outer) (hf : X.env.frame = some X.env.locals) (hN : X.N.Nodup) (hi : X.N[i]? = some n) (hln : X.env.kindOf n = some .local) (hc : Names X x c) (tk : Takes X W)
    (htbl : ∀ s b, tbl s = some b → PySem.W.exmOne X.K (.ref (T.cls s)) c = some b)
    (hb : ∀ (W' : WX) (pn : List (Addr × Obj)) (xe : Value → Shared → Prop), Takes (X.tr pn xe) W' → PassesOwn (model X.prog X.w) X.A X.env xe → PXSs (X.tr pn xe) T W' body fb)
    (hsu : ∀ (ex : Exn) (a : Addr) (oe : Obj) (d : Option Addr) (pn : List (Addr × Obj)), Zc (.ref (T.cls ex.c)) d oe → (ex.fs = [] → d = none) → (∃ vs, oe.data = .fields vs) → PXSs (X.suite a ((a, oe) :: pn)) (T.at a d) W0 (b₀ :: suite) (fs ex)) :
    PXS X T W (.Try body [.ExceptHandler (some (.Name x np)) (some n) (b₀ :: suite) pos'] [] [] pos) (sTry i tbl fb fs) := by
  refine ⟨_, ps_try_as (tb := fun W' => cS T W' fb) (ts := fun a cls d => fun D σ H => ∃ (ex : Exn) (g : G) (F : Addr → Prop) (env : En), cls = .ref (T.cls ex.c) ∧ (ex.fs = [] → d = none) ∧ St8 (T.at a d) g F H σ env ∧ SGo (T.at a d) g W0 F H D (fs ex env))
    hs hf hN hi hln hc tk (fun W' pn xe t p => (hb W' pn xe t p).canon) (fun a oe cls d pn hz hv => ⟨fun pins s σ H D I ⟨ex, g, F, env, ec, ed, S, G⟩ => ?_⟩), fun g F H σ env E S G => ⟨g, F, env, S, ?_⟩⟩
  · subst ec
    obtain ⟨t, q, p⟩ := (hsu ex a oe d pn hz ed hv).ex
    exact q.run pins s σ H D I (p g F H σ env D S G)
  · unfold sTry at G
    cases eb : fb env with
    | bad => rw [eb] at G; exact G.elim
    | ok fl e => rw [eb] at G; exact G
    | exc x e =>
      rw [eb] at G
      intro F' H' σ' dd _ S' E' r
      cases et : tbl x.c with
      | none => simp only [et] at G; exact G.elim
      | some b =>
        refine ⟨b, htbl _ _ et, fun hb a ha => ?_, fun hb => ?_⟩
        · subst hb
          simp only [et] at G
          split at G
          · rename_i cc
            obtain ⟨c1, c2⟩ := cc
            have S1 := (S'.tx (T.at_eq a dd) c1).put i (some (.ref a)) (.hd x.fs) c2 (.hd rfl (r.tx (T.at_eq a dd))) fun z => by cases z
            refine ⟨x, g, F', e.set i (.hd x.fs), rfl, fun hx => ?_, S1, ?_⟩
            · rcases r with ⟨_, z⟩ | ⟨n, _⟩
              · exact z
              · exact absurd hx n
            · cases ef : fs x (e.set i (.hd x.fs)) with
              | bad => rw [ef] at G; exact G.elim
              | exc y e2 => rw [ef] at G; exact G.elim
              | ok fl e2 =>
                rw [ef] at G
                unfold Out.unhd at G
                simp only at G
                split at G
                · rename_i hn2
                  intro F2 H2 σ2 _ S2 E2
                  have S3 := (S2.put i none .no hn2.2 .no fun z => by cases z).tx (T.eq_at a dd) hn2.1
                  have G2 := G F2 H2 _ trivial S3 (E'.trans E2)
                  cases fl with
                  | nx => exact G2
                  | brk => exact G2
                  | cnt => exact G2
                  | ret d => exact fun v rv => G2 v (rv.tx (T.eq_at a dd))
                  | retO d =>
                    intro v rv
                    obtain ⟨b, h1, h2, h3, h4, h5, h6⟩ := rv.ex
                    refine G2 v ⟨b, h1, h2, h3, h4, ?_, h6.tx (T.eq_at a dd)⟩
                    rintro ⟨j, t, q, ht, l⟩
                    by_cases z : j = i
                    · subst z
                      rw [List.getElem?_set_self hn2.2] at q
                      cases q; cases ht
                    · rw [List.getElem?_set_ne (Ne.symm z)] at q
                      rw [look_set (by rw [← S2.len]; exact hn2.2), if_neg z] at l
                      exact h5 ⟨j, t, q, ht, l⟩
                · exact G.elim
          · exact G.elim
        · subst hb
          simp only [et] at G
          exact G F' H' σ' dd trivial S' E' r
/-- isinstance(n, C), n the exception that is handled -/
def eIsE (i : Nat) (b : Option Bool) : M D := fun env => match env[i]? with
  | some (.hd _) => Out.of (b.map .bl) env
  | _ => .bad
def rIsEd (K : PySem.W.Frag) (D a : Addr) (d : Option Addr) : List V → Hp → VK → Prop := fun xs H Q => (∀ dd, d = some dd → ∃ fs, Rd H dd (.xd fs)) ∧ ∃ (c : V) (cv : Value) (b : Bool), xs = [.ref a, c] ∧ (∀ u, RelV c u → u = cv) ∧ PySem.W.kitOne K (.ref D) cv = some b ∧ Q (.bl b) H
theorem call_isEd {X : Cx} {a D : Addr} {oe : Obj} {d : Option Addr} {pn : List (Addr × Obj)} (C : ExcC X.K D) (hz : Zc (.ref D) d oe) (hf : ∃ vs, oe.data = .fields vs) : CallR (X.suite a ((a, oe) :: pn)) (.builtin "isinstance") (rIsEd X.K D a d) := by
  intro pins s σ H xs us Q I r h
  obtain ⟨hdd, c, cv, b, rfl, hcv, e, q⟩ := h
  cases r with
  | cons rx rr =>
    cases rr with
    | cons rt rr =>
      cases rr
      cases rx
      have ec := hcv _ rt
      subst ec
      obtain ⟨hget, _⟩ := I.pin (a, oe) (List.mem_append.mpr (.inl List.mem_cons_self))
      obtain ⟨vs, hv⟩ := hf
      have J : ∃ od, PySem.W.InstAt s.heap a oe D od := by
        obtain ⟨oc, od, oda, osl⟩ := oe
        obtain ⟨h1, h2⟩ := hz
        dsimp only at h1 h2 hv
        subst h1 h2 hv
        cases od with
        | none => exact ⟨none, hget, rfl, rfl, trivial⟩
        | some dd =>
          obtain ⟨fs, ho⟩ := hdd dd rfl
          obtain ⟨mA, hns, _⟩ := rd_of I.hok ho
          obtain ⟨o, es, ep, go, _⟩ := hns
          exact ⟨some o, hget, rfl, rfl, go⟩
      obtain ⟨od, J⟩ := J
      have hcl : (PySem.W.clsIn X.K D).isSome = true := by
        have := C.hd
        unfold PySem.W.hasDictIn at this
        revert this
        cases PySem.W.clsIn X.K D <;> intro z <;> first | rfl | cases z
      exact PySem.W.kia_one (PySem.W.kitx_exc hcl C.hg C.hk C.hs C.ha C.hn C.ht C.hm) I.kIn J e (fun z => nomatch z) fun tk => ⟨.bl b, H, I.kept (t' := tk) fun _ _ z => z, rfl, q⟩
theorem XR.some {fs : List (Str × D)} {dd : Option Addr} {F : Addr → Prop} {H : Hp} (r : XR T F H fs dd) : ∀ d, dd = some d → ∃ xs, Rd H d (.xd xs) := fun d e => by
  rcases r with ⟨_, z⟩ | ⟨_, d', xs, z, _, h, _⟩
  · rw [z] at e; cases e
  · rw [z] at e; cases e; exact ⟨xs, .inl h⟩
theorem PX.isE (i : Nat) {a : Addr} {oe : Obj} {d : Option Addr} {pn : List (Addr × Obj)} {D : Addr} {n y : Str} {c : V} {cv : Value} {b : Option Bool} {p p1 p2 pos : Pos} (hz : Zc (.ref D) d oe) (hv : ∃ vs, oe.data = .fields vs) (hb : ∀ k, b = some k → ExcC X.K D ∧ PySem.W.kitOne X.K (.ref D) cv = some k)
    (hc : PE (X.suite a ((a, oe) :: pn)) (.Name y p2) (tC c)) (hcv : ∀ u, RelV c u → u = cv) (hm : X.mg "isinstance" = none) (hg : Gl X "isinstance" := by rfl) (hN : X.N[i]? = some n := by rfl) (hvis : Vis X.env.scope n := by first | exact Or.inl rfl | exact Or.inr (Or.inl rfl) | exact Or.inr (Or.inr rfl))
    (hd : (n == ("__debug__" : Str)) = false := by decide) (hcd : (n == ("__classdict__" : Str)) = false := by decide) (he : starEach ((Expr.Name n p1) :: [Expr.Name y p2]) X.env = (false, eval (.Name n p1) X.env) :: starEach [Expr.Name y p2] X.env := by rfl)
    (he2 : starEach ([Expr.Name y p2]) X.env = (false, eval (.Name y p2) X.env) :: starEach [] X.env := by rfl) (hpl : (backTo pos (starEach [Expr.Name y p2] X.env)).any (·.1) = false := by rfl) :
    PX (X.suite a ((a, oe) :: pn)) (T.at a d) W0 (.Call (.Name "isinstance" p) [.Name n p1, .Name y p2] [] pos) (eIsE i b) := by
  cases b with
  | none =>
    refine ⟨fun _ _ _ => False, ⟨fun _ _ _ _ _ _ h => h.elim⟩, fun g F H σ env Q S G => ?_⟩
    unfold eIsE at G
    split at G <;> exact G.elim
  | some k =>
    obtain ⟨C, hk⟩ := hb k rfl
    refine ⟨_, pe_callB (call_isEd C hz hv) hg hm PyProof.Rows.boot_isinstance (pa_cons (pe_var hN hvis hd hcd) (pa_cons hc pa_nil he2) he) (by decide) (by decide) he hpl, fun g F H σ env Q S G => ?_⟩
    unfold eIsE at G
    split at G
    · rename_i e1
      have r := S.sl i _ e1
      cases r with
      | hd h r => exact ⟨_, look_eq h, ⟨r.some, c, cv, k, rfl, hcv, hk, G F H σ rfl S .refl _ (.bl k)⟩⟩
    · exact G.elim
/-- n.f, n the exception that is handled -/
def eXfl (i : Nat) (f : Str) (ok : Bool) : M D := fun env => match env[i]? with
  | some (.hd fs) => if ok = true then Out.of (fs.lookup f) env else .bad
  | _ => .bad
@[simp] theorem ap_eXfl {i : Nat} {f : Str} {ok : Bool} {e : En} : eXfl i f ok e = match e[i]? with
  | some (.hd fs) => if ok = true then Out.of (fs.lookup f) e else .bad
  | _ => .bad := rfl
theorem repF_lookup {F : Addr → Prop} {H : Hp} {f : Str} {d : D} : ∀ {fs : List (Str × D)} {xs : List (Str × V)}, RepF T F H fs xs → fs.lookup f = some d → ∃ v, xs.lookup f = some v ∧ Rep T F H d v
  | _, _, .nil, h => by cases h
  | (k, d0) :: fs, (_, x) :: xs, .cons r1 r2, h => by
    rw [List.lookup_cons] at h ⊢
    cases c : f == k with
    | true => rw [c] at h; cases h; exact ⟨x, rfl, r1⟩
    | false => rw [c] at h; exact repF_lookup r2 h
theorem PX.xfl (i : Nat) {f : Str} {a : Addr} {oe : Obj} {d : Option Addr} {pn : List (Addr × Obj)} {D : Addr} {n : Str} {ok : Bool} {p pos : Pos} (hz : Zc (.ref D) d oe) (hv : ∃ vs, oe.data = .fields vs) (hb : ok = true → XfC X.K D ∧ PySem.W.findIn X.K (.ref D) f = some none)
    (hN : X.N[i]? = some n := by rfl) (hvis : Vis X.env.scope n := by first | exact Or.inl rfl | exact Or.inr (Or.inl rfl) | exact Or.inr (Or.inr rfl))
    (hd : (n == ("__debug__" : Str)) = false := by decide) (hcd : (n == ("__classdict__" : Str)) = false := by decide) (hbase : attributeBase (.Name n p) f X.env (eval (.Name n p) X.env) = eval (.Name n p) X.env := by rfl) :
    PX (X.suite a ((a, oe) :: pn)) (T.at a d) W0 (.Attribute (.Name n p) f pos) (eXfl i f ok) := by
  cases ok with
  | false =>
    refine ⟨fun _ _ _ => False, ⟨fun _ _ _ _ _ _ h => h.elim⟩, fun g F H σ env Q S G => ?_⟩
    unfold eXfl at G
    split at G
    · rw [if_neg Bool.false_ne_true] at G; exact G.elim
    · exact G.elim
  | true =>
    obtain ⟨C, hno⟩ := hb rfl
    refine ⟨_, pe_xf (cls := .ref D) (d := d) C hno hz hv (pe_var hN hvis hd hcd) hbase, fun g F H σ env Q S G => ?_⟩
    unfold eXfl at G
    split at G
    · rename_i fs e1
      rw [if_pos rfl] at G
      have r := S.sl i _ e1
      cases r with
      | hd h r =>
        refine ⟨_, look_eq h, rfl, rfl, ?_⟩
        cases e2 : fs.lookup f with
        | none => rw [e2] at G; exact G.elim
        | some v =>
          rw [e2] at G
          rcases r with ⟨z, _⟩ | ⟨_, dd, xs, z, _, hx, rf⟩
          · rw [z] at e2; cases e2
          · obtain ⟨u, hu, ru⟩ := repF_lookup rf e2
            exact ⟨dd, xs, u, z, hx, hu, G F H σ rfl S .refl _ ru⟩
    · exact G.elim
end
end Pu
namespace Pu
open PySem PySem.Spec L2
open PyProof.Rows hiding St

/-! ## pairs of ints in their order -/
abbrev IP := Int × Int
def pLt (p q : IP) : Bool := SrtO.lexB p q
theorem pLt_iff {p q : IP} : pLt p q = true ↔ p.1 < q.1 ∨ (p.1 = q.1 ∧ p.2 < q.2) := SrtO.lexB_iff
theorem pLt_no {p q : IP} : pLt p q = false ↔ ¬ (p.1 < q.1 ∨ (p.1 = q.1 ∧ p.2 < q.2)) := SrtO.lexB_no
def insL (p : IP) : List IP → List IP
  | [] => [p]
  | q :: r => if pLt q p = true then q :: insL p r else p :: q :: r
def sortL : List IP → List IP
  | [] => []
  | p :: r => insL p (sortL r)
abbrev Asc (l : List IP) : Prop := l.Pairwise fun p q => pLt q p = false
theorem insL_perm (p : IP) : ∀ l : List IP, (insL p l).Perm (p :: l)
  | [] => .refl _
  | q :: r => by
    unfold insL
    split
    · exact (List.Perm.cons q (insL_perm p r)).trans (List.Perm.swap p q r)
    · exact .refl _
theorem sortL_perm : ∀ l : List IP, (sortL l).Perm l
  | [] => .refl _
  | p :: r => (insL_perm p (sortL r)).trans (List.Perm.cons p (sortL_perm r))
theorem pLt_tr {p q r : IP} (h1 : pLt q p = false) (h2 : pLt r q = false) : pLt r p = false := by
  rw [pLt_no] at *
  omega
theorem insL_asc (p : IP) : ∀ {l : List IP}, Asc l → Asc (insL p l)
  | [], _ => List.pairwise_singleton _ _
  | q :: r, h => by
    obtain ⟨h1, h2⟩ := List.pairwise_cons.mp h
    unfold insL
    split
    · rename_i c
      refine List.pairwise_cons.mpr ⟨fun z hz => ?_, insL_asc p h2⟩
      rcases List.mem_cons.mp ((insL_perm p r).mem_iff.mp hz) with e | e
      · rw [e, pLt_no]; rw [pLt_iff] at c; omega
      · exact h1 z e
    · rename_i c
      have c' : pLt q p = false := by cases e : pLt q p with | true => exact absurd e c | false => rfl
      refine List.pairwise_cons.mpr ⟨fun z hz => ?_, h⟩
      rcases List.mem_cons.mp hz with e | e
      · rw [e]; exact c'
      · exact pLt_tr c' (h1 z e)
theorem sortL_asc : ∀ l : List IP, Asc (sortL l)
  | [] => List.Pairwise.nil
  | p :: r => insL_asc p (sortL_asc r)
theorem pLt_anti {p q : IP} (h1 : pLt q p = false) (h2 : pLt p q = false) : p = q := by
  rw [pLt_no] at h1 h2
  exact Prod.ext (by omega) (by omega)
theorem asc_uniq : ∀ {l m : List IP}, Asc l → Asc m → l.Perm m → l = m
  | [], m, _, _, p => (List.nil_perm.mp p).symm ▸ rfl
  | a :: l, [], _, _, p => absurd p.length_eq (by simp)
  | a :: l, b :: m, h, k, p => by
    obtain ⟨h1, h2⟩ := List.pairwise_cons.mp h
    obtain ⟨k1, k2⟩ := List.pairwise_cons.mp k
    have e : a = b := by
      rcases List.mem_cons.mp (p.mem_iff.mp List.mem_cons_self) with e | ea
      · exact e
      · rcases List.mem_cons.mp (p.mem_iff.mpr List.mem_cons_self) with e | eb
        · exact e.symm
        · exact pLt_anti (h1 b eb) (k1 a ea)
    subst e
    rw [asc_uniq h2 k2 ((List.perm_cons a).mp p)]
def undup : List IP → List IP
  | [] => []
  | p :: r => if p ∈ undup r then undup r else p :: undup r
theorem undup_mem {p : IP} : ∀ {l : List IP}, p ∈ undup l ↔ p ∈ l
  | [] => Iff.rfl
  | q :: r => by
    unfold undup
    split
    · rename_i c
      rw [List.mem_cons, undup_mem]
      constructor
      · exact .inr
      · rintro (e | e)
        · rw [e]; exact undup_mem.mp c
        · exact e
    · rw [List.mem_cons, List.mem_cons, undup_mem]
theorem undup_nodup : ∀ l : List IP, (undup l).Nodup
  | [] => List.nodup_nil
  | p :: r => by
    unfold undup
    split
    · exact undup_nodup r
    · rename_i c
      exact List.nodup_cons.mpr ⟨c, undup_nodup r⟩

def pairD (p : IP) : D := .tup [.int p.1, .int p.2]
def pair1 : D → Option IP
  | .tup [.int i, .int j] => some (i, j)
  | _ => none
def pairsD : List D → Option (List IP)
  | [] => some []
  | d :: ds => (pair1 d).bind fun p => (pairsD ds).map fun ps => p :: ps
theorem pair1_of {d : D} {p : IP} (h : pair1 d = some p) : d = pairD p := by
  unfold pair1 at h
  split at h
  · cases h; rfl
  · cases h
theorem pairsD_of : ∀ {ds : List D} {ps : List IP}, pairsD ds = some ps → ds = ps.map pairD
  | [], ps, h => by cases h; rfl
  | d :: ds, ps, h => by
    unfold pairsD at h
    obtain ⟨p, h1, h2⟩ := Option.bind_eq_some_iff.mp h
    obtain ⟨r, h3, rfl⟩ := Option.map_eq_some_iff.mp h2
    rw [List.map_cons, pair1_of h1, pairsD_of h3]
@[simp] theorem pairsD_map : ∀ ps : List IP, pairsD (ps.map pairD) = some ps
  | [] => rfl
  | p :: ps => by
    rw [List.map_cons]
    unfold pairsD
    rw [pairsD_map ps]
    rfl
/-- the pair that stands at a value -/
def kk (H : Hp) : V → IP
  | .ref a => match H a with
    | some (.tup [.int x, .int y]) => (x, y)
    | _ => (0, 0)
  | _ => (0, 0)
section
variable {T : Tx} {F : Addr → Prop} {H : Hp}
theorem rep_pair {p : IP} {v : V} (r : Rep T F H (pairD p) v) : ∃ a, v = .ref a ∧ True ∧ H a = some (.tup [.int p.1, .int p.2]) ∧ kk H v = p := by
  cases r with
  | tup fa ha ra =>
    cases ra with
    | cons r1 r2 =>
      cases r2 with
      | cons r2 r3 =>
        cases r1; cases r2; cases r3
        refine ⟨_, rfl, trivial, ha, ?_⟩
        simp only [kk, ha]
  | tpl h => cases h
theorem repl_pairs : ∀ {ps : List IP} {xs : List V}, RepL T F H (ps.map pairD) xs → xs.map (kk H) = ps ∧ ∀ x ∈ xs, Rep T F H (pairD (kk H x)) x
  | [], _, .nil => ⟨rfl, fun x h => by cases h⟩
  | p :: ps, _, .cons r1 r2 => by
    obtain ⟨h1, h2⟩ := repl_pairs r2
    obtain ⟨a, _, _, _, e⟩ := rep_pair r1
    refine ⟨by rw [List.map_cons, e, h1], fun x hx => ?_⟩
    rcases List.mem_cons.mp hx with z | z
    · rw [z, e]; exact r1
    · exact h2 x z
theorem repl_of_pairs : ∀ {xs : List V}, (∀ x ∈ xs, Rep T F H (pairD (kk H x)) x) → RepL T F H ((xs.map (kk H)).map pairD) xs
  | [], _ => .nil
  | x :: xs, h => .cons (h x List.mem_cons_self) (repl_of_pairs fun y hy => h y (List.mem_cons_of_mem _ hy))
end
section
variable {X : Cx} {T : Tx} {W : WX}
/-- sorted(xs), a list of pairs -/
def sortD : D → Option D
  | .lst ds => (pairsD ds).map fun ps => .lst ((sortL ps).map pairD)
  | _ => none
theorem asc_of {H : Hp} {ys : List V} (h : SrtO.Srtd (ltP (kk H)) ys) : Asc (ys.map (kk H)) := List.pairwise_map.mpr (List.Pairwise.imp (fun h => h) h)
theorem call_sortD : CallO X T (.builtin "sorted") sortD := by
  refine ⟨_, cr_sortedPO, fun g F H σ env d1 v1 d Q S r e q => ?_⟩
  unfold sortD at e
  split at e
  · obtain ⟨ps, e1, rfl⟩ := Option.map_eq_some_iff.mp e
    have e2 := pairsD_of e1
    subst e2
    obtain ⟨a, xs, rfl, ha, ra⟩ := r.lst
    obtain ⟨h1, h2⟩ := repl_pairs ra
    refine ⟨a, xs, kk H, rfl, .of ha, fun x hx => ?_, fun ys p hs hb hp => ?_⟩
    · obtain ⟨t, e, _, ht, _⟩ := rep_pair (h2 x hx)
      exact ⟨t, e, ht⟩
    · have e3 : ys.map (kk H) = sortL ps := by
        refine asc_uniq (asc_of hs) (sortL_asc ps) ?_
        refine (hb.perm.map (kk H)).trans ?_
        rw [h1]
        exact (sortL_perm ps).symm
      have ry : RepL T F H ((sortL ps).map pairD) ys := by
        rw [← e3]
        exact repl_of_pairs fun x hx => h2 x (hb.perm.mem_iff.mp hx)
      obtain ⟨S', E', r'⟩ := own_lst S hp ry
      exact q F _ _ S' E' r'
  · cases e

/-! ## set(xs), xs a list or a tuple of pairs; sorted(set(xs)) -/
def rSetOfP (K : PySem.W.Frag) (P : Program) (w : World) : List V → Hp → VK → Prop := fun xs H Q => ∃ (l : Addr) (ks : List (Addr × List Int)), xs = [V.ref l] ∧ SqT K H l (ks.map fun p => V.ref p.1) ∧ (∀ p ∈ ks, SqT K H p.1 (p.2.map V.int)) ∧ ks.length < 64 ∧
  ∀ a L, H a = none → (∀ p ∈ L, p ∈ ks) → (∀ p ∈ ks, p.2 ∈ L.map (·.2)) → Q (.ref a) (upd H a (SetTO P w a L))
theorem cr_setOfP (hc : X.calm = true) (hu : X.A.units + 64 < cLine) : CallR X (.type "set") (rSetOfP X.K X.prog X.w) := by
  intro pins s σ H xs us Q I r h
  obtain ⟨l, ks, rfl, hl, hk, hf, q⟩ := h
  rw [Vals.ref1 r]
  obtain ⟨its, rv, pl, hz⟩ := I.tuple hl
  have hn : H s.heap.objs.size = none := I.hok.fresh (Nat.le_refl _)
  refine PuM.set_of_tuple (P := X.prog) (w := X.w) ks (I.ok.hd hc) (show s.heap.IsTuple l its.toArray from pl) (by simpa using refs_of_vals rv) (fun p hp => I.isT (hk p hp)) hf (by omega) fun h' tk L es ep t R gt k => ?_
  exact ⟨.ref s.heap.objs.size, upd H s.heap.objs.size (SetTO X.prog X.w s.heap.objs.size L), I.laid (t' := tk) k (Nat.le_refl _) (setTO_new R.t0), rfl, q _ L hn (fun p hp => List.mem_of_mem_take (gt.sub p hp)) fun p hp => gt.all p (by rw [List.take_length]; exact hp)⟩
def kA (H : Hp) : Value → IP
  | .ref a => kk H (.ref a)
  | _ => (0, 0)
def rSortSetP (K : PySem.W.Frag) (P : Program) (w : World) : List V → Hp → VK → Prop := fun vs H Q => ∃ (a : Addr) (L : List (Addr × List Int)), vs = [V.ref a] ∧ H a = some (SetTO P w a L) ∧ (∀ p ∈ L, H p.1 = some (.tup (p.2.map V.int))) ∧ (∀ p ∈ L, ∃ x y, p.2 = [x, y]) ∧
  ∀ (ys : List V) (p : Addr), ys.Perm (L.map fun q => V.ref q.1) → (L.map (·.2)).Nodup → SrtO.Srtd (ltP (kk H)) ys → H p = none → Q (.ref p) (upd H p (.lst ys))
theorem cr_sortSetP (hc : X.calm = true) : CallR X (.builtin "sorted") (rSortSetP X.K X.prog X.w) := by
  intro pins s σ H vs us Q I r h
  obtain ⟨a, L, rfl, ha, hk, hp2, q⟩ := h
  have R0 : SetT0 X.prog X.w s.heap a L := (I.hok a _ ha).1
  obtain ⟨es, ep, t, R⟩ := R0.full fun p hp => I.isT (.of (hk p hp))
  rw [Vals.ref1 r]
  refine PuM.sorted_set_pairs R (I.ok.hd hc) hp2 (kA H) (fun p hp => ?_) fun s' p out c k gg oo hpp hg pm hs => ?_
  · obtain ⟨x, y, e⟩ := hp2 p hp
    have h1 := hk p hp
    rw [e] at h1 ⊢
    show [x, y] = [(kk H (.ref p.1)).1, (kk H (.ref p.1)).2]
    simp only [kk, h1, List.map_cons, List.map_nil]
  · have refs : ∀ u ∈ out, ∃ b, u = Value.ref b := fun u hu => by
      obtain ⟨z, _, e⟩ := List.mem_map.mp (pm.mem_iff.mp hu)
      exact ⟨z.1, e.symm⟩
    have bk : (L.map fun q => Value.ref q.1).map bkV = L.map fun q => V.ref q.1 := by
      rw [List.map_map]; rfl
    have hn : H p = none := I.hok.fresh hpp
    have hv : Vals (out.map bkV) out := bkV_vals refs
    have hlen : (out.map bkV).length ≤ sizeLine := by rw [List.length_map, pm.length_eq, List.length_map, sizeLine_eq]; have := R.few; omega
    have J : Inv X pins σ (upd H p (.lst (out.map bkV))) { s with heap := s'.heap, gens := s'.gens, drawn := s'.drawn, toks := s'.toks } :=
      I.call (ch := []) (Un.laid k hpp hn) (I.hok.laid k hpp ⟨hlen, out, c, hv, hg⟩) (by rw [gg]; exact I.bare) (fun _ z => nomatch z)
    have es' : s' = { s with heap := s'.heap, gens := s'.gens, drawn := s'.drawn, toks := s'.toks } := by
      cases s'; cases s; cases oo; rfl
    rw [es']
    refine ⟨.ref p, _, J, rfl, q (out.map bkV) p (by rw [← bk]; exact pm.map bkV) R.nd ?_ hn⟩
    refine List.pairwise_map.mpr (List.Pairwise.imp_of_mem (fun {u v} hu hv h => ?_) hs)
    obtain ⟨b, rfl⟩ := refs u hu
    obtain ⟨b', rfl⟩ := refs v hv
    exact h
/-- sorted(set(xs)) -/
def sortSetD (d : D) : Option D := (seqD d).bind fun ds => (pairsD ds).bind fun ps => if ps.length < 64 then some (.lst ((sortL (undup ps)).map pairD)) else none
def keysOf (H : Hp) (xs : List V) : List (Addr × List Int) := xs.map fun v => match v with
  | .ref a => (a, [(kk H v).1, (kk H v).2])
  | _ => (0, [])
theorem keysOf_refs {F : Addr → Prop} {H : Hp} : ∀ {xs : List V}, (∀ x ∈ xs, Rep T F H (pairD (kk H x)) x) → (keysOf H xs).map (fun p => V.ref p.1) = xs
  | [], _ => rfl
  | x :: xs, h => by
    obtain ⟨a, e, _⟩ := rep_pair (h x List.mem_cons_self)
    have ih := keysOf_refs (xs := xs) fun y hy => h y (List.mem_cons_of_mem _ hy)
    subst e
    show V.ref a :: (keysOf H xs).map (fun p => V.ref p.1) = V.ref a :: xs
    rw [ih]
theorem keysOf_mem {F : Addr → Prop} {H : Hp} {xs : List V} (h : ∀ x ∈ xs, Rep T F H (pairD (kk H x)) x) {p : Addr × List Int} (hp : p ∈ keysOf H xs) : V.ref p.1 ∈ xs ∧ p.2 = [(kk H (.ref p.1)).1, (kk H (.ref p.1)).2] ∧ True ∧ H p.1 = some (.tup (p.2.map V.int)) := by
  obtain ⟨v, hv, e⟩ := List.mem_map.mp hp
  obtain ⟨a, ea, fa, ha, _⟩ := rep_pair (h v hv)
  subst ea
  cases e
  exact ⟨hv, rfl, fa, ha⟩
theorem PXO.sortSet {a : Expr} {fa : M D} {p1 p2 pos1 pos : Pos} (hc : X.calm = true) (hu : X.A.units + 64 < cLine) (ha : PXB X T W a fa) (hm : X.mg "sorted" = none) (hm2 : X.mg "set" = none) (hg : Gl X "sorted" := by rfl) (hg2 : Gl X "set" := by rfl)
    (he : starEach ((Expr.Call (.Name "set" p2) [a] [] pos1) :: []) X.env = (false, eval (Expr.Call (.Name "set" p2) [a] [] pos1) X.env) :: starEach [] X.env := by rfl) (hpl : (backTo pos (starEach [] X.env)).any (·.1) = false := by rfl)
    (he2 : starEach (a :: []) X.env = (false, eval a X.env) :: starEach [] X.env := by rfl) (hpl2 : (backTo pos1 (starEach [] X.env)).any (·.1) = false := by rfl) :
    PXO X T W (.Call (.Name "sorted" p1) [.Call (.Name "set" p2) [a] [] pos1] [] pos) (eB1 sortSetD fa) := by
  obtain ⟨ta, qa, pa⟩ := ha.ex
  refine ⟨_, pe_callB (cr_sortSetP hc) hg hm (by decide +kernel) (pa_cons (pe_callTy ((cr_setOfT hc hu).or (cr_setOfP hc hu)) hg2 hm2 (by decide +kernel) (pa_cons qa pa_nil he2) (by decide) (by decide) he2 hpl2) pa_nil he) (by decide) (by decide) he hpl, fun g F H σ env Q S G => ?_⟩
  refine pa g F H σ env _ S (Goal.bind (fun _ h => h) G fun d e1 F1 H1 σ1 _ hs S1 E1 G1 v r => ?_)
  subst hs
  cases q : sortSetD d with
  | none => rw [q] at G1; exact G1.elim
  | some d' =>
    rw [q] at G1
    unfold sortSetD at q
    obtain ⟨ds, q1, q⟩ := Option.bind_eq_some_iff.mp q
    obtain ⟨ps, q2, q⟩ := Option.bind_eq_some_iff.mp q
    split at q
    · rename_i hl
      obtain rfl := Option.some.inj q
      have e2 := pairsD_of q2
      subst e2
      -- behind set(..): the members' addresses; behind sorted: the list
      have fin : ∀ xs, RepL T F1 H1 (ps.map pairD) xs → (keysOf H1 xs).length < 64 ∧ (∀ p ∈ keysOf H1 xs, SqT X.K H1 p.1 (p.2.map V.int)) ∧ (keysOf H1 xs).map (fun p => V.ref p.1) = xs ∧ ∀ a L, H1 a = none → (∀ p ∈ L, p ∈ keysOf H1 xs) → (∀ p ∈ keysOf H1 xs, p.2 ∈ L.map (·.2)) →
          rSortSetP X.K X.prog X.w [V.ref a] (upd H1 a (SetTO X.prog X.w a L)) Q := fun xs ra => by
        obtain ⟨h1, h2⟩ := repl_pairs ra
        have hlx : xs.length = ps.length := by rw [← ra.length, List.length_map]
        refine ⟨by unfold keysOf; rw [List.length_map, hlx]; exact hl, fun p hp => .of (keysOf_mem h2 hp).2.2.2, keysOf_refs h2, fun a L hn hL hA => ?_⟩
        obtain ⟨S2, E2⟩ := S1.loose hn (SetTO X.prog X.w a L)
        have keep : ∀ b u, H1 b = some u → upd H1 a (SetTO X.prog X.w a L) b = some u := fun b u e => by rw [upd_ne (ne_of_none e hn)]; exact e
        refine ⟨a, L, rfl, upd_same, fun p hp => keep _ _ (keysOf_mem h2 (hL p hp)).2.2.2, fun p hp => ⟨_, _, (keysOf_mem h2 (hL p hp)).2.1⟩, fun ys b pm nd hs hb => ?_⟩
        have r2 : ∀ x ∈ xs, Rep T F1 (upd H1 a (SetTO X.prog X.w a L)) (pairD (kk H1 x)) x := fun x hx => (h2 x hx).mono E2.f E2.k
        have kke : ∀ x ∈ xs, kk (upd H1 a (SetTO X.prog X.w a L)) x = kk H1 x := fun x hx => by
          obtain ⟨t, _, _, _, e⟩ := rep_pair (r2 x hx)
          exact e
        have sub : ∀ y ∈ ys, y ∈ xs := fun y hy => by
          obtain ⟨p, hp, e⟩ := List.mem_map.mp (pm.mem_iff.mp hy)
          rw [← e]
          exact (keysOf_mem h2 (hL p hp)).1
        have e3 : ys.map (kk (upd H1 a (SetTO X.prog X.w a L))) = sortL (undup ps) := by
          refine asc_uniq (asc_of hs) (sortL_asc _) ?_
          have em : ys.map (kk (upd H1 a (SetTO X.prog X.w a L))) = ys.map (kk H1) := List.map_congr_left fun y hy => kke y (sub y hy)
          rw [em]
          have nd2 : ((L.map fun q => V.ref q.1).map (kk H1)).Nodup := by
            rw [List.map_map]
            have ek : L.map (kk H1 ∘ fun q => V.ref q.1) = (L.map (·.2)).map fun l => (l.getD 0 0, l.getD 1 0) := by
              rw [List.map_map]
              refine List.map_congr_left fun q hq => ?_
              have := (keysOf_mem h2 (hL q hq)).2.1
              show kk H1 (V.ref q.1) = (q.2.getD 0 0, q.2.getD 1 0)
              rw [this]; rfl
            rw [ek]
            refine List.pairwise_map.mpr (List.Pairwise.imp_of_mem (fun {u v} hu hv hne e => hne ?_) nd)
            obtain ⟨p, hp, rfl⟩ := List.mem_map.mp hu
            obtain ⟨p', hp', rfl⟩ := List.mem_map.mp hv
            have e1 := (keysOf_mem h2 (hL p hp)).2.1
            have e2 := (keysOf_mem h2 (hL p' hp')).2.1
            rw [e1, e2] at e ⊢
            have i1 := congrArg Prod.fst e
            have i2 := congrArg Prod.snd e
            simp only [List.getD_cons_zero, List.getD_cons_succ] at i1 i2
            rw [i1, i2]
          refine ((pm.map (kk H1)).trans ?_)
          refine (List.Perm.trans ?_ (sortL_perm (undup ps)).symm)
          refine (List.perm_ext_iff_of_nodup nd2 (undup_nodup ps)).mpr fun z => ?_
          rw [undup_mem, ← h1]
          constructor
          · intro hz
            obtain ⟨y, hy, rfl⟩ := List.mem_map.mp hz
            obtain ⟨p, hp, e⟩ := List.mem_map.mp hy
            exact List.mem_map.mpr ⟨y, by rw [← e]; exact (keysOf_mem h2 (hL p hp)).1, rfl⟩
          · intro hz
            obtain ⟨y, hy, rfl⟩ := List.mem_map.mp hz
            obtain ⟨t, et, _⟩ := rep_pair (h2 y hy)
            subst et
            have mk : (t, [(kk H1 (.ref t)).1, (kk H1 (.ref t)).2]) ∈ keysOf H1 xs := List.mem_map.mpr ⟨V.ref t, hy, rfl⟩
            obtain ⟨p, hp, e⟩ := List.mem_map.mp (hA _ mk)
            have e1 := (keysOf_mem h2 (hL p hp)).2.1
            have e : p.2 = [(kk H1 (.ref t)).1, (kk H1 (.ref t)).2] := e
            rw [e1] at e
            injection e with i1 i2
            injection i2 with i2 _
            exact List.mem_map.mpr ⟨V.ref p.1, List.mem_map.mpr ⟨p, hp, rfl⟩, Prod.ext i1 i2⟩
        have ry : RepL T F1 (upd H1 a (SetTO X.prog X.w a L)) ((sortL (undup ps)).map pairD) ys := by
          rw [← e3]
          exact repl_of_pairs fun y hy => by rw [kke y (sub y hy)]; exact r2 y (sub y hy)
        obtain ⟨S3, E3, r3⟩ := own_lst S2 hb ry
        exact G1 F1 _ σ1 rfl S3 (E2.trans E3) _ r3
      cases d with
      | lst ds0 =>
        cases q1
        obtain ⟨b, xs, rfl, hb, rb⟩ := r.lst
        obtain ⟨f1, f2, f3, f4⟩ := fin xs rb
        exact .inl ⟨b, keysOf H1 xs, rfl, by rw [f3]; exact .of hb, f2, f1, f4⟩
      | tup ds0 =>
        cases q1
        obtain ⟨b, xs, rfl, fb, hb, rb⟩ := r.tup
        obtain ⟨f1, f2, f3, f4⟩ := fin xs rb
        exact .inr ⟨b, keysOf H1 xs, rfl, by rw [f3]; exact .inl hb, f2, f1, f4⟩
      | _ => cases q1
    · cases q
end
end Pu
namespace Pu
open PySem PySem.Spec L2
open PyProof.Rows hiding St

/-! ## tuples of ints in order -/
section
variable {X : Cx} {T : Tx} {W : WX}
def intsOf : List D → Option (List Int)
  | [] => some []
  | .int i :: r => (intsOf r).map fun is => i :: is
  | _ :: _ => none
theorem intsOf_of : ∀ {ds : List D} {is : List Int}, intsOf ds = some is → ds = is.map D.int
  | [], _, e => by cases e; rfl
  | .int i :: r, is, e => by
    unfold intsOf at e
    obtain ⟨cs, e1, rfl⟩ := Option.map_eq_some_iff.mp e
    rw [List.map_cons, intsOf_of e1]
  | .non :: _, _, e => nomatch e
  | .bl _ :: _, _, e => nomatch e
  | .str _ :: _, _, e => nomatch e
  | .tup _ :: _, _, e => nomatch e
  | .lst _ :: _, _, e => nomatch e
  | .dct _ :: _, _, e => nomatch e
  | .dck _ :: _, _, e => nomatch e
  | .ins _ _ :: _, _, e => nomatch e
  | .fn _ :: _, _, e => nomatch e
  | .scr _ :: _, _, e => nomatch e
def rGeT (K : PySem.W.Frag) : R2 := fun x y H Q => ∃ (a b : Addr) (ns ms : List Int), x = .ref a ∧ y = .ref b ∧ SqT K H a (ns.map V.int) ∧ SqT K H b (ms.map V.int) ∧
  Q (.bl (Ob.lexAt (fun j => decide (ns.getD j 0 = ms.getD j 0)) (fun j => decide (ms.getD j 0 ≤ ns.getD j 0)) (decide (ns.length ≥ ms.length)) 0 (min ns.length ms.length))) H
theorem op_geT (hu : X.A.units < cLine) : OpR X (compareOp .GtE) (rGeT X.K) := by
  intro pins s σ H x y v u Q I rx ry h
  obtain ⟨a, b, ns, ms, rfl, rfl, ha, hb, q⟩ := h
  cases rx
  cases ry
  obtain ⟨its, r1, p1, _⟩ := I.tuple ha
  obtain ⟨its2, r2, p2, _⟩ := I.tuple hb
  have i1 : IntsAre its ns := Vals.ints r1
  have i2 : IntsAre its2 ms := Vals.ints r2
  have e1 : its.toArray.size = ns.length := by rw [List.size_toArray]; exact i1.length
  have e2 : its2.toArray.size = ms.length := by rw [List.size_toArray]; exact i2.length
  have at1 : ∀ j (h1 : j < its.toArray.size), ∃ t, its.toArray[j] = .int (ns.getD j 0) t := fun j h1 => PyProof.Rows.IntsAre.int_at i1 _ _ (by simp at h1; simp [h1])
  have at2 : ∀ j (h1 : j < its2.toArray.size), ∃ t, its2.toArray[j] = .int (ms.getD j 0) t := fun j h1 => PyProof.Rows.IntsAre.int_at i2 _ _ (by simp at h1; simp [h1])
  have R := Ob.RcOp.tuples_ge (A := X.A) (s := s) (e := fun j => decide (ns.getD j 0 = ms.getD j 0)) (r := fun j => decide (ms.getD j 0 ≤ ns.getD j 0)) p1 p2 hu (fun j h1 h2 => by
    obtain ⟨t, et⟩ := at1 j h1
    obtain ⟨t', et'⟩ := at2 j h2
    rw [et, et']
    have z : (ns.getD j 0 == ms.getD j 0) = decide (ns.getD j 0 = ms.getD j 0) := by
      by_cases q : ns.getD j 0 = ms.getD j 0
      · rw [decide_eq_true q]; exact beq_iff_eq.mpr q
      · rw [decide_eq_false q]; exact beq_eq_false_iff_ne.mpr q
    rw [← z]
    exact SeqAt.EqAt.int_int _ _ _ _) (fun j h1 h2 _ => by
    obtain ⟨t, et⟩ := at1 j h1
    obtain ⟨t', et'⟩ := at2 j h2
    rw [et, et']
    exact Ob.RcOp.ge_int _ _ _ _)
  rw [e1, e2] at R
  have z : wpAny (model X.prog X.w) X.A (compareOp .GtE (.ref a) (.ref b)) (EP X pins σ Q) X.xe s := R X.prog X.w X.xe (EP X pins σ Q) ⟨.bl _, H, I, rfl, q⟩
  exact z
def onT (k : List Int → List Int → Bool) : D → D → Option D
  | .tup a, .tup b => (intsOf a).bind fun ns => (intsOf b).map fun ms => .bl (k ns ms)
  | _, _ => none
def geL (ns ms : List Int) : Bool := Ob.lexAt (fun j => decide (ns.getD j 0 = ms.getD j 0)) (fun j => decide (ms.getD j 0 ≤ ns.getD j 0)) (decide (ns.length ≥ ms.length)) 0 (min ns.length ms.length)
def leL (ns ms : List Int) : Bool := Ob.lexAt (fun j => decide (ns.getD j 0 = ms.getD j 0)) (fun j => decide (ns.getD j 0 ≤ ms.getD j 0)) (decide (ns.length ≤ ms.length)) 0 (min ns.length ms.length)
theorem OpD.tups {f : Value → Value → Sem Value} {r : R2} {k : List Int → List Int → Bool} (o : OpR X f r) (h : ∀ (a b : Addr) ns ms H Q, Rd H a (.tup (ns.map V.int)) → Rd H b (.tup (ms.map V.int)) → Q (.bl (k ns ms)) H → r (.ref a) (.ref b) H Q) : OpD X T f (onT k) :=
  .pure o fun T F H d1 d2 v1 v2 d Q r1 r2 e q => by
    unfold onT at e
    split at e
    · obtain ⟨ns, e1, e2⟩ := Option.bind_eq_some_iff.mp e
      obtain ⟨ms, e3, rfl⟩ := Option.map_eq_some_iff.mp e2
      obtain ⟨a, xs, rfl, fa, ha, ra⟩ := r1.tup
      obtain ⟨b, ys, rfl, fb, hb, rb⟩ := r2.tup
      rw [intsOf_of e1] at ra
      rw [intsOf_of e3] at rb
      rw [ra.ints] at ha
      rw [rb.ints] at hb
      exact h a b ns ms H Q ha hb (q _ (.bl _))
    · cases e
theorem op_tGe (hu : X.A.units < cLine) : OpD X T (compareOp .GtE) (onT geL) := .tups (op_geT hu) fun a b ns ms H Q ha hb q => ⟨a, b, ns, ms, rfl, rfl, .inl ha, .inl hb, q⟩
theorem op_tLe (hu : X.A.units < cLine) : OpD X T (compareOp .LtE) (onT leL) := .tups (op_leT hu) fun a b ns ms H Q ha hb q => ⟨a, b, ns, ms, rfl, rfl, .inl ha, .inl hb, q⟩
theorem op_tLt (hu : X.A.units < cLine) : OpD X T (compareOp .Lt) (onT HT.lexLt) := .tups (op_ltT hu) fun a b ns ms H Q ha hb q => ⟨a, b, ns, ms, rfl, rfl, .inl ha, .inl hb, q⟩
def aGe : D → D → Option D := fun a b => (iGe a b).or (onT geL a b)
def aLe : D → D → Option D := fun a b => (iLe a b).or (onT leL a b)
def aLt : D → D → Option D := fun a b => (iLt a b).or (onT HT.lexLt a b)
theorem op_aGe (hu : X.A.units < cLine) : OpD X T (compareOp .GtE) aGe := op_iGe.or (op_tGe hu)
theorem op_aLe (hu : X.A.units < cLine) : OpD X T (compareOp .LtE) aLe := op_iLe.or (op_tLe hu)
theorem op_aLt (hu : X.A.units < cLine) : OpD X T (compareOp .Lt) aLt := op_iLt.or (op_tLt hu)
@[simp] theorem aGe_int (i j : Int) : aGe (.int i) (.int j) = some (.bl (decide (j ≤ i))) := rfl
@[simp] theorem aLe_int (i j : Int) : aLe (.int i) (.int j) = some (.bl (decide (i ≤ j))) := rfl
@[simp] theorem aLt_int (i j : Int) : aLt (.int i) (.int j) = some (.bl (decide (i < j))) := rfl
theorem geL_pair (a b c d : Int) : geL [a, b] [c, d] = if a = c then (if b = d then true else decide (d ≤ b)) else decide (c ≤ a) := by
  unfold geL
  show Ob.lexAt _ _ _ 0 2 = _
  rw [Ob.lexAt_succ, Ob.lexAt_succ, Ob.lexAt_zero]
  simp
theorem aGe_pair (p q : IP) : aGe (pairD p) (pairD q) = some (.bl (geL [p.1, p.2] [q.1, q.2])) := rfl

/-! ## ''.join(..) -/
def strsOf : List D → Option (List Str)
  | [] => some []
  | .str z :: r => (strsOf r).map fun is => z :: is
  | _ :: _ => none
theorem strsOf_of : ∀ {ds : List D} {is : List Str}, strsOf ds = some is → ds = is.map D.str
  | [], _, e => by cases e; rfl
  | .str i :: r, is, e => by
    unfold strsOf at e
    obtain ⟨cs, e1, rfl⟩ := Option.map_eq_some_iff.mp e
    rw [List.map_cons, strsOf_of e1]
  | .non :: _, _, e => nomatch e
  | .bl _ :: _, _, e => nomatch e
  | .int _ :: _, _, e => nomatch e
  | .tup _ :: _, _, e => nomatch e
  | .lst _ :: _, _, e => nomatch e
  | .dct _ :: _, _, e => nomatch e
  | .dck _ :: _, _, e => nomatch e
  | .ins _ _ :: _, _, e => nomatch e
  | .fn _ :: _, _, e => nomatch e
  | .scr _ :: _, _, e => nomatch e
theorem strsOf_map : ∀ zs : List Str, strsOf (zs.map D.str) = some zs
  | [] => rfl
  | b :: bs => by rw [List.map_cons, strsOf, strsOf_map bs]; rfl
def joinD : D → D → Option D := fun a b => match a with
  | .str s => (seqD b).bind fun ds => (strsOf ds).bind fun ys => if (ys.map (·.length)).sum + ys.length * s.length ≤ big then some (.str (Txt.join s ys)) else none
  | _ => none
def eJoin (fo fe : M D) : M D := fun env => (fo env).bind fun d1 e1 => match d1 with
  | .str s => (fe e1).bind fun d2 e2 => Out.of (joinD (.str s) d2) e2
  | _ => .bad
theorem PX.join {o e : Expr} {fo fe : M D} {apos pos : Pos} (ho : PX X T W o fo) (he : PXB X T W e fe) (hs : starEach [e] X.env = [(false, eval e X.env)] := by rfl) (hbase : attributeBase o "join" X.env (eval o X.env) = eval o X.env := by rfl) (hline : (apos.endLine == pos.line) = true := by rfl) :
    PX X T W (.Call (.Attribute o "join" apos) [e] [] pos) (eJoin fo fe) := by
  obtain ⟨to, qo, po⟩ := ho.ex
  obtain ⟨te, qe, pe⟩ := he.ex
  refine ⟨_, pe_join qo qe hs hbase hline, fun g F H σ env Q S G => ?_⟩
  refine po g F H σ env _ S (Goal.bind (fun _ h => h) G fun d1 e1 F1 H1 σ1 _ hs S1 E1 G1 v1 r1 => ?_)
  subst hs
  split at G1
  · rename_i s0 _
    cases r1
    refine ⟨⟨s0, rfl⟩, pe g F1 H1 σ1 e1 _ S1 (Goal.bind (fun _ h => h) G1 fun d2 e2 F2 H2 σ2 _ hs S2 E2 G2 v2 r2 => ?_)⟩
    subst hs
    cases q : joinD (.str s0) d2 with
    | none => rw [q] at G2; exact G2.elim
    | some d =>
      rw [q] at G2
      unfold joinD at q
      obtain ⟨ds, q1, q⟩ := Option.bind_eq_some_iff.mp q
      obtain ⟨ys, q2, q⟩ := Option.bind_eq_some_iff.mp q
      split at q
      · rename_i hl
        cases q
        have hl2 : (ys.map (·.length)).sum + ys.length * s0.length ≤ 16777216 := Nat.le_trans hl (by decide)
        have fin := G2 F2 H2 σ2 rfl S2 .refl _ (.str _)
        have q2 := strsOf_of q2
        subst q2
        cases d2 with
        | lst ds => cases q1; obtain ⟨a, xs, rfl, ha, ra⟩ := r2.lst; rw [ra.strs] at ha; exact ⟨s0, a, ys, rfl, rfl, .inl (.of ha), hl2, fin⟩
        | tup ds => cases q1; obtain ⟨a, xs, rfl, fa, ha, ra⟩ := r2.tup; rw [ra.strs] at ha; exact ⟨s0, a, ys, rfl, rfl, .inr (.inl ha), hl2, fin⟩
        | _ => cases q1
      · cases q
  · exact G1.elim
end

/-! ## f(new, ..): the first argument a new root that the def writes -/
section
variable {T : Tx} {g : G} {F : Addr → Prop} {H : Hp} {σ : St} {env : En}
abbrev G.more (g : G) (a : Addr) : G := ⟨g.F0, g.H0, g.W, fun b => g.L b ∨ b = a, g.Z⟩
theorem St8.more (S : St8 T g F H σ env) {a : Addr} (ha : ∃ o, H a = some o) (nr : ¬ Roots σ env a) : St8 T (g.more a) F H σ env := by
  refine ⟨S.len, fun i s e => ?_, S.dis, S.fdom, S.fnew, fun b h => ?_, S.wdom, S.zdom, S.keep⟩
  · cases S.sl i s e with
    | no => exact .no
    | hd h r => exact .hd h r
    | val h1 h2 => exact .val h1 h2
    | own h f l w c => exact .own h f (fun z => z.elim l fun z => nr ⟨i, _, e, rfl, by rw [← z]; exact h⟩) w c
    | io h f l w c => exact .io h f (fun z => z.elim l fun z => nr ⟨i, _, e, rfl, by rw [← z]; exact h⟩) w c
  · rcases h with h | h
    · exact S.ldom b h
    · rw [h]; exact ha
theorem St8.less {a : Addr} (S : St8 T (g.more a) F H σ env) : St8 T g F H σ env ∧ ¬ Roots σ env a := by
  refine ⟨⟨S.len, fun i s e => ?_, S.dis, S.fdom, S.fnew, fun b h => S.ldom b (.inl h), S.wdom, S.zdom, S.keep⟩, fun ⟨i, s, e, hs, l⟩ => ?_⟩
  · cases S.sl i s e with
    | no => exact .no
    | hd h r => exact .hd h r
    | val h1 h2 => exact .val h1 h2
    | own h f l w c => exact .own h f (fun z => l (.inl z)) w c
    | io h f l w c => exact .io h f (fun z => l (.inl z)) w c
  · obtain ⟨b, d, h1, _, _, h4, _⟩ := (S.sl i s e).root hs
    rw [l] at h1
    cases h1
    exact h4 (.inr rfl)
theorem Ext.less {a : Addr} {F' : Addr → Prop} {H' : Hp} (E : Ext (g.more a) F H F' H') : Ext g F H F' H' := ⟨E.f, fun b h => E.l b (.inl h), E.k, fun b o h => E.lk b o (.inl h)⟩
end
def mCallT (n : Nat) (fn : Fn) (f0 : M D) (fa : M (List Av)) : M D := fun env => (f0 env).bind fun d e1 => (fa e1).bind fun as e2 => if fn.io = [0] ∧ as.length + 1 = n then match allVal as with
    | some ds => match fn.run (d :: ds) with
      | .ok d' _ _ => .ok d' e2
      | .exc x _ => .exc x e2
      | .bad => .bad
    | none => .bad
  else .bad
section
variable {X : Cx} {T : Tx} {W : WX} {k : Nat} {f : Addr} {fd : FuncData} {ps : List Str} {x : Str} {p pos : Pos} {e : Expr} {es : List Expr} {n : Nat} {fn : Fn} {f0 : M D} {fa : M (List Av)}
theorem PX.callT (Fk : FnOk X.prog X.w X.K X.mg X.base (L2.CX X.prog X.w) k f fd ps (spF T n fn)) (hr : Room k X.A) (hm : X.mg x = some (.ref f)) (hk : PySem.W.keepIn X.K (.ref f) = true) (hb : Binds X.K fd ps []) (tk : Takes X W) (h0 : PXO X T W e f0) (ha : PXA X T W es fa)
    (hg : Gl X x := by rfl) (hdb : (x == ("__debug__" : Str)) = false := by decide) (he : starEach (e :: es) X.env = (false, eval e X.env) :: starEach es X.env := by rfl) (hpl : (backTo pos (starEach es X.env)).any (·.1) = false := by rfl) :
    PX X T W (.Call (.Name x p) (e :: es) [] pos) (mCallT n fn f0 fa) := by
  obtain ⟨t0, q0, p0⟩ := h0.ex
  obtain ⟨ta, qa, pa⟩ := ha.ex
  refine ⟨_, pe_callS Fk hr hg hm hk hb (fun σ => passAt tk σ) (pa_cons q0 qa he) hdb he hpl, fun g F H σ env Q S G => ?_⟩
  refine p0 g F H σ env _ S (Goal.bind (fun _ h => h) G fun d e1 F1 H1 σ1 _ hs S1 E1 G1 v r => ?_)
  subst hs
  obtain ⟨a, rfl, n1, n2, n3, n4, c⟩ := r.ex
  obtain ⟨o, ho, _⟩ := c.there
  have SM := S1.more ⟨o, ho⟩ n4
  refine pa (g.more a) F1 H1 σ1 e1 _ SM ?_
  cases ef : fa e1 with
  | bad => rw [ef] at G1; exact G1.elim
  | exc x env' =>
    rw [ef] at G1
    exact fun F' H' σ' dd hs S' E' r => G1 F' H' σ' dd hs S'.less.1 E'.less r
  | ok as e2 =>
    rw [ef] at G1
    intro F2 H2 σ2 hs S2m E2m vs rs
    subst hs
    obtain ⟨S2, nr⟩ := S2m.less
    have E2 := E2m.less
    have G2 := Goal.ext G1 E2
    have n1' : ¬ F2 a := fun z => n1 (E2m.l a (.inr rfl) z)
    have c2 : Con T F2 H2 a d := c.mono E2.f E2.k fun o q => E2m.lk a o (.inr rfl) q
    simp only [bind_ok] at G2
    split at G2
    · rename_i cc
      obtain ⟨hio, hlen⟩ := cc
      split at G2
      · rename_i ds hall
        have rl := rs.all hall
        have hlv : vs.length + 1 = n := by rw [← rs.len]; exact hlen
        have AR : ArgR T F2 H2 fn.io (d :: ds) (.ref a :: vs) := by
          refine ⟨by rw [List.length_cons, List.length_cons, rl.length], fun i d hd hi => ?_, fun i d hd hi => ?_, fun i j b ij hi hj => ?_⟩
          · cases i with
            | zero => exact absurd (by rw [hio]; exact List.mem_cons_self) hi
            | succ i =>
              obtain ⟨v, h1, h2⟩ := rl.get (i := i) (d := d) (by simpa using hd)
              exact ⟨v, by simpa using h1, h2⟩
          · rw [hio] at hi
            obtain rfl : i = 0 := by simpa using hi
            cases hd
            exact ⟨a, rfl, n1', c2⟩
          · rw [hio] at hi hj
            have e1 : i = 0 := by simpa using hi
            have e2 : j = 0 := by simpa using hj
            exact absurd (e1.trans e2.symm) ij
        refine ⟨by rw [List.length_cons]; exact hlv, _, F2, AR, S2.fdom, ?_⟩
        have fin : ∀ ios F' H', After T fn.io (.ref a :: vs) F2 H2 ios F' H' → St8 T g F' H' σ2 e2 ∧ Ext g F2 H2 F' H' := fun ios F' H' A =>
          S2.called (fun b => b = a) (fun b hb => by subst hb; exact ⟨n1', n2, .inl n3, nr, c2.nt⟩) A.f A.new A.dom (fun b o h n => A.keep b o h fun i hi hv => by
              rw [hio] at hi
              obtain rfl : i = 0 := by simpa using hi
              cases hv
              exact n rfl) (fun b hb => by
              subst hb
              obtain ⟨_, d, _, cc⟩ := A.rts 0 (by rw [hio]; exact List.mem_cons_self) b rfl
              obtain ⟨o, q, _⟩ := cc.there
              exact ⟨o, q⟩)
        show FGoal T fn.io _ F2 H2 _ _ (fn.run (d :: ds))
        cases er : fn.run (d :: ds) with
        | bad => simp only [er] at G2; exact G2.elim
        | exc x ios =>
          simp only [er] at G2
          intro F' H' dd A r
          obtain ⟨S4, E4⟩ := fin ios F' H' A
          exact G2 F' H' σ2 dd rfl S4 E4 r
        | ok d' own ios =>
          simp only [er] at G2
          cases own with
          | false =>
            intro F' H' v A r
            obtain ⟨S4, E4⟩ := fin ios F' H' A
            exact G2 F' H' σ2 rfl S4 E4 v r
          | true =>
            intro F' H' b A nf h0 cb
            obtain ⟨S4, E4⟩ := fin ios F' H' A
            obtain ⟨m1, m2, m3, m4, m5⟩ := S2.free h0
            obtain ⟨o, q, _⟩ := cb.there
            obtain ⟨S5, E5⟩ := S4.freeze ⟨o, q⟩ m3 m2 (S2.noroot h0)
            exact G2 _ H' σ2 rfl S5 (E4.trans E5) _ ((cb.mono E5.f E5.k fun _ h => h).rep (.inr rfl))
      · exact G2.elim
    · exact G2.elim
end
end Pu
namespace Pu
open PySem PySem.Spec L2
open PyProof.Rows hiding St

theorem _root_.L2.Room.u65 {k : Nat} {A : Around} (r : Room k A) : A.units + 65 < cLine := by have := r.un; omega
theorem _root_.L2.Room.u64 {k : Nat} {A : Around} (r : Room k A) : A.units + 64 < cLine := by have := r.un; omega
theorem _root_.L2.Room.u1 {k : Nat} {A : Around} (r : Room k A) : A.units + 1 < cLine := by have := r.un; omega
theorem _root_.L2.Room.u0 {k : Nat} {A : Around} (r : Room k A) : A.units < cLine := by have := r.un; omega
/-- what the top says of a def -/
structure DefT (K : PySem.W.Frag) (mg : Str → Option Value) (T : Tx) (n : String) (x qual : Str) (st : Stmt) (ps : List Str) (fd : FuncData) : Prop where
  fn : L2.Fun K x qual st (T.fn n) fd
  bi : Binds K fd ps []
  kp : PySem.W.keepIn K (.ref (T.fn n)) = true
  gl : mg x = some (.ref (T.fn n))
structure DefM (K : PySem.W.Frag) (T : Tx) (n : String) (x qual : Str) (st : Stmt) (ps : List Str) (fd : FuncData) : Prop where
  fn : L2.Fun K x qual st (T.fn n) fd
  bi : Binds K fd ps []
/-- of an own error without fields -/
structure ExK (K : PySem.W.Frag) (T : Tx) (c : String) : Prop where
  bm : ∃ bmB : List Value, PySem.W.excIn K (T.cls c) bmB "ValueError.__new__" = true ∧ ExcBaseFacts "ValueError" "ValueError.__new__" "ValueError.__init__" bmB
  kp : PySem.W.keepIn K (.ref (T.cls c)) = true
  sb : PySem.W.subIn K (.ref (T.cls c)) (.type "BaseException") = some true
  ty : PySem.W.typeIn K (.ref (T.cls c)) = some (.type "type")
theorem ExK.at {K : PySem.W.Frag} {T : Tx} {c : String} (h : ExK K T c) {X : Cx} (e : X.K = K := by rfl) : ExT X T c := by
  subst e
  exact ⟨h.bm, h.kp, h.sb, h.ty⟩
theorem Fun.def2 {P : Program} {w : World} {K : PySem.W.Frag} {mg : Str → Option Value} {base : Heap} {x qual : Str} {st : Stmt} {f : Addr} {fd : FuncData} {N ps : List Str} {k n np : Nat} (T : Tx) (io : List Nat) (body : M Fl) (F : L2.Fun K x qual st f fd) (S : FnScope N ps (defScope st)) (hn : N.length = n) (hp : ps.length = np) (hnd : io.Nodup) (hio : ∀ i ∈ io, i < np)
    (hbody : ∀ (cdv : Value) (A : Around) (outer : List Env) (s : Shared) (H : Hp) (E : XK), Room k (A.deeper (envOfC qual (defScope st) s.heap.objs.size f cdv)) →
      PXSs (cxOf (L2.CX P w) P w K mg base N qual (defScope st) f cdv A outer s H E) T (fun cls d _ H => E cls d H) (defBody st) body) :
    FnOk P w K mg base (L2.CX P w) (k + 1) f fd ps (spF T np ⟨io, runDef io n body⟩) := by
  subst hn
  subst hp
  exact Fun.def T io body F S hnd hio hbody
theorem bt_len : bootBuiltins "len" = some (.builtin "len") := by decide +kernel
theorem bt_all : bootBuiltins "all" = some (.builtin "all") := by decide +kernel
theorem bt_any : bootBuiltins "any" = some (.builtin "any") := by decide +kernel
theorem bt_sorted : bootBuiltins "sorted" = some (.builtin "sorted") := by decide +kernel
theorem bt_isinstance : bootBuiltins "isinstance" = some (.builtin "isinstance") := by decide +kernel
theorem bt_min : bootBuiltins "min" = some (.builtin "min") := by decide +kernel
theorem bt_max : bootBuiltins "max" = some (.builtin "max") := by decide +kernel
theorem bt_sum : bootBuiltins "sum" = some (.builtin "sum") := by decide +kernel
theorem bt_int : bootBuiltins "int" = some (.type "int") := by decide +kernel
theorem bt_tuple : bootBuiltins "tuple" = some (.type "tuple") := by decide +kernel
theorem bt_list : bootBuiltins "list" = some (.type "list") := by decide +kernel
theorem bt_set : bootBuiltins "set" = some (.type "set") := by decide +kernel
theorem bt_enumerate : bootBuiltins "enumerate" = some (.type "enumerate") := by decide +kernel
theorem bt_dict : bootBuiltins "dict" = some (.type "dict") := by decide +kernel
theorem bt_range : bootBuiltins "range" = some (.type "range") := by decide +kernel
theorem tu0 : ∀ ds env env', gN0 ds env = some env' → ds.length = 0 := by
  intro ds env env' h
  match ds with
  | [] => rfl
  | d :: ds => cases h
theorem tuS {f : MG} {r : List D → En → Option En} {n : Nat} (hr : ∀ ds env env', r ds env = some env' → ds.length = n) : ∀ ds env env', gNs f r ds env = some env' → ds.length = n + 1 := by
  intro ds env env' h
  match ds with
  | [] => cases h
  | d :: ds =>
    unfold gNs at h
    obtain ⟨_, _, h⟩ := Option.bind_eq_some_iff.mp h
    rw [List.length_cons, hr _ _ _ h]
theorem tu2 {f1 f2 : MG} : ∀ ds env env', gNs f1 (gNs f2 gN0) ds env = some env' → ds.length = 2 := tuS (tuS tu0)
theorem tu3 {f1 f2 f3 : MG} : ∀ ds env env', gNs f1 (gNs f2 (gNs f3 gN0)) ds env = some env' → ds.length = 3 := tuS tu2
theorem tu4 {f1 f2 f3 f4 : MG} : ∀ ds env env', gNs f1 (gNs f2 (gNs f3 (gNs f4 gN0))) ds env = some env' → ds.length = 4 := tuS tu3
/-- a suite for errors without fields alone -/
def onE (x : Exn) (f : M Fl) : M Fl := if x.fs.isEmpty = true then f else fun _ => .bad
theorem PXSs.onE {X : Cx} {T : Tx} {W : WX} {s : List Stmt} {f : M Fl} {x : Exn} (h : x.fs = [] → PXSs X T W s f) : PXSs X T W s (onE x f) := by
  unfold Pu.onE
  split
  · rename_i e
    exact h (List.isEmpty_iff.mp e)
  · exact ⟨fun _ _ _ => False, ⟨fun _ _ _ _ _ _ h => h.elim⟩, fun g F H σ env E S G => G.elim⟩
end Pu
namespace Pu
open PySem PySem.Spec L2
open PyProof.Rows hiding St

/-! ## the mirrors, evaluated -/
section
variable {i : Nat} {e env : En} {d : D} {f fa fb fc r : M D} {g : D → D → Option D} {s : M Fl} {b : M Bool}
@[simp] theorem ap_eC : eC d e = .ok d e := rfl
@[simp] theorem ap_bVar : bVar i e = match e[i]? with | some (.val d) => .ok d e | some (.own d) => .ok d e | some (.io d) => .ok d e | _ => .bad := rfl
@[simp] theorem ap_eVar : eVar i e = match e[i]? with | some (.val d) => .ok d e | some (.own d) => .ok d (e.set i (.val d)) | _ => .bad := rfl
@[simp] theorem ap_eOp : eOp g fa fb e = (fa e).bind fun d1 e1 => (fb e1).bind fun d2 e2 => Out.of (g d1 d2) e2 := rfl
@[simp] theorem ap_tVal : tVal f e = (f e).bind fun d e => match d with | .bl b => .ok b e | _ => .bad := rfl
@[simp] theorem ap_tTru : tTru f e = (f e).bind fun d e => Out.of (truD d) e := rfl
@[simp] theorem ap_eChain {g1 g2 : D → D → Option D} : eChain g1 g2 fa fb fc e = (fa e).bind fun d1 e1 => (fb e1).bind fun d2 e2 => match g1 d1 d2 with
  | some (.bl true) => (fc e2).bind fun d3 e3 => Out.of (g2 d2 d3) e3
  | some (.bl false) => .ok (.bl false) e2
  | _ => .bad := rfl
@[simp] theorem ap_tAnd {f g : M Bool} : tAnd' f g e = (f e).bind fun b e => if b = true then g e else .ok false e := rfl
@[simp] theorem ap_tOr {f g : M Bool} : tOr' f g e = (f e).bind fun b e => if b = true then .ok true e else g e := rfl
@[simp] theorem ap_tNot {f : M Bool} : tNot' f e = (f e).bind fun b e => .ok (!b) e := rfl
@[simp] theorem ap_eAnd : eAnd fa fb e = (fa e).bind fun d e => match d with | .bl true => fb e | .bl false => .ok (.bl false) e | _ => .bad := rfl
@[simp] theorem ap_eOr : eOr fa fb e = (fa e).bind fun d e => match d with | .bl false => fb e | .bl true => .ok (.bl true) e | _ => .bad := rfl
@[simp] theorem ap_eNot : eNot fa e = (fa e).bind fun d e => match d with | .bl b => .ok (.bl (!b)) e | _ => .bad := rfl
@[simp] theorem ap_eIf : eIf b fa fb e = (b e).bind fun b e => if b = true then fa e else fb e := rfl
@[simp] theorem ap_eNeg : eNeg fa e = (fa e).bind fun d e => match d with | .int i => .ok (.int (-i)) e | _ => .bad := rfl
@[simp] theorem ap_eIx : eIx fa fb e = (fa e).bind fun d1 e1 => (fb e1).bind fun d2 e2 => Out.of (ixD d1 d2) e2 := rfl
@[simp] theorem ap_eIxV : eIxV i fb e = match slotD e i with
  | none => .bad
  | some _ => (fb e).bind fun d2 e2 => Out.of ((slotD e2 i).bind fun d1 => ixD d1 d2) e2 := rfl
@[simp] theorem ap_slotD : slotD e i = match e[i]? with | some (.val d) => some d | some (.own d) => some d | some (.io d) => some d | _ => none := rfl
@[simp] theorem ap_rootD : rootD e i = match e[i]? with | some (.own d) => some (d, .own) | some (.io d) => some (d, .io) | _ => none := rfl
@[simp] theorem ap_eSl {l h : MO} : eSl fa l h e = (fa e).bind fun d e1 => (l e1).bind fun lo e2 => (h e2).bind fun hi e3 => Out.of (slD d lo hi) e3 := rfl
@[simp] theorem ap_pNo : pNo e = .ok none e := rfl
@[simp] theorem ap_pAt : pAt f e = (f e).bind fun d e => match d with | .int i => .ok (some i) e | _ => .bad := rfl
@[simp] theorem ap_eRev : eRev fa e = (fa e).bind fun d e => match d with | .lst ds => .ok (.lst ds.reverse) e | _ => .bad := rfl
@[simp] theorem ap_aNil : aNil e = .ok [] e := rfl
@[simp] theorem ap_aVal {r : M (List Av)} : aVal f r e = (f e).bind fun d e1 => (r e1).bind fun ds e2 => .ok (.val d :: ds) e2 := rfl
@[simp] theorem ap_aSl {r : M (List Av)} : aSl i r e = match e[i]? with
  | some (.own _) => (r e).bind fun ds e2 => .ok (.sl i :: ds) e2
  | some (.io _) => (r e).bind fun ds e2 => .ok (.sl i :: ds) e2
  | _ => .bad := rfl
@[simp] theorem ap_eTup {f : M (List Av)} : eTup f e = (f e).bind fun as e => Out.of ((allVal as).bind fun ds => if ds.length ≤ big ∧ evish ds = false then some (.tup ds) else none) e := rfl
@[simp] theorem ap_eLst {f : M (List Av)} : eLst f e = (f e).bind fun as e => Out.of ((allVal as).bind fun ds => if ds.length ≤ big then some (.lst ds) else none) e := rfl
@[simp] theorem allVal_nil : allVal [] = some [] := rfl
@[simp] theorem allVal_val {d : D} {r : List Av} : allVal (.val d :: r) = (allVal r).map fun ds => d :: ds := rfl
@[simp] theorem allVal_sl {r : List Av} : allVal (.sl i :: r) = none := rfl
@[simp] theorem ap_eB1 {gD : D → Option D} : eB1 gD fa e = (fa e).bind fun d e => Out.of (gD d) e := rfl
@[simp] theorem ap_eJoin : eJoin fa fb e = (fa e).bind fun d1 e1 => match d1 with
  | .str s => (fb e1).bind fun d2 e2 => Out.of (joinD (.str s) d2) e2
  | _ => .bad := rfl
@[simp] theorem ap_eFldC {c : String} {x : Str} : eFldC c x fa e = (fa e).bind fun d e => match d with
  | .ins c' fs => if c' = c then Out.of (getF fs x) e else .bad
  | _ => .bad := rfl
@[simp] theorem ap_eIsE {k : Option Bool} : eIsE i k e = match e[i]? with | some (.hd _) => Out.of (k.map .bl) e | _ => .bad := rfl
@[simp] theorem ap_sApp : sApp i f e = match rootD e i with
  | some (.lst _, _) => (f e).bind fun d e1 => match rootD e1 i with
    | some (.lst ds, mk) => if ds.length < big then .ok .nx (e1.set i (mk (.lst (ds ++ [d])))) else .bad
    | _ => .bad
  | _ => .bad := rfl
@[simp] theorem ap_sSetI : sSetI i fa fb e = (fb e).bind fun d e1 => match rootD e1 i with
  | some _ => (fa e1).bind fun k e2 => match rootD e2 i with
    | some (o, mk) => match setD o k d with
      | some o' => .ok .nx (e2.set i (mk o'))
      | none => .bad
    | none => .bad
  | none => .bad := rfl
@[simp] theorem ap_sSet : sSet i f e = (f e).bind fun d e1 => if i < e1.length then .ok .nx (e1.set i (.val d)) else .bad := rfl
@[simp] theorem ap_sSetO : sSetO i f e = (f e).bind fun d e1 => if i < e1.length then .ok .nx (e1.set i (.own d)) else .bad := rfl
@[simp] theorem ap_sUnp {tg : MG} : sUnp tg f e = (f e).bind fun d e1 => match tg d e1 with | some e2 => .ok .nx e2 | none => .bad := rfl
@[simp] theorem ap_gNm : gNm i d e = if i < e.length then some (e.set i (.val d)) else none := rfl
@[simp] theorem ap_gTu {tg : List D → En → Option En} {ds : List D} : gTu tg (.tup ds) e = tg ds e := rfl
@[simp] theorem ap_gNs {t : MG} {tg : List D → En → Option En} {ds : List D} : gNs t tg (d :: ds) e = (t d e).bind (tg ds) := rfl
@[simp] theorem ap_gN0 : gN0 [] e = some e := rfl
@[simp] theorem ap_sNil : sNil e = .ok .nx e := rfl
@[simp] theorem ap_sSeq {s r : M Fl} : sSeq s r e = (s e).bind fun fl e1 => match fl with | .nx => r e1 | fl => .ok fl e1 := rfl
@[simp] theorem ap_sIf {a b : M Fl} {c : M Bool} : sIf c a b e = (c e).bind fun k e => if k = true then a e else b e := rfl
@[simp] theorem ap_sRet : sRet f e = (f e).bind fun d e => .ok (.ret d) e := rfl
@[simp] theorem ap_sRetO : sRetO f e = (f e).bind fun d e => .ok (.retO d) e := rfl
@[simp] theorem ap_sRetV : sRetV i e = match e[i]? with
  | some (.own d) => .ok (.retO d) (e.set i .no)
  | some (.val d) => .ok (.ret d) e
  | _ => .bad := rfl
@[simp] theorem ap_sExpr : sExpr f e = (f e).bind fun _ e => .ok .nx e := rfl
@[simp] theorem ap_sBrk : sBrk e = .ok .brk e := rfl
@[simp] theorem ap_sCnt : sCnt e = .ok .cnt e := rfl
@[simp] theorem ap_sRetN : sRetN e = .ok (.ret .non) e := rfl
@[simp] theorem ap_sRaise {c : String} : sRaise c e = .exc ⟨c, []⟩ e := rfl
@[simp] theorem ap_sSetF {c : String} {x : Str} : sSetF c i x f e = (f e).bind fun d e1 => match rootD e1 i with
  | some (.ins c' fs, mk) => if c' = c ∧ fs.length < 900 then .ok .nx (e1.set i (mk (.ins c' (putFD x d fs)))) else .bad
  | _ => .bad := rfl
@[simp] theorem ap_iAny : iAny f e = (f e).bind fun d e => Out.of (itemsD d) e := rfl
@[simp] theorem ap_iR1 : iR1 f e = (f e).bind fun d e => Out.of (rng1D d) e := rfl
@[simp] theorem ap_iR2 : iR2 fa fb e = (fa e).bind fun d e => (fb e).bind fun d2 e2 => Out.of (rng2D d d2) e2 := rfl
@[simp] theorem ap_sFor {tg : MG} {fi : M (List D)} : sFor tg fi s e = (fi e).bind fun ds e1 => forL tg s ds e1 := rfl
@[simp] theorem ap_eLc {tg : MG} {fi : M (List D)} {t : M Bool} {vs : List Nat} : eLc tg fi t f vs e = (fi e).bind fun ds e1 => lcL tg t f vs ds [] (wipeE e1 vs) := rfl
@[simp] theorem ap_tYs : tYs e = .ok true e := rfl
@[simp] theorem wipeE_nil : wipeE e [] = e := rfl
@[simp] theorem wipeE_cons {v : Nat} {vs : List Nat} : wipeE e (v :: vs) = (wipeE e vs).set v .no := rfl
end
/-! calls -/
section
variable {n : Nat} {fn : Fn} {fa : M (List Av)} {e : En} {f0 : M D}
@[simp] theorem ap_mCall : mCall n fn fa e = (fa e).bind fun as e1 => if argsOk fn.io as = true ∧ as.length = n then match prep fn.io 0 as e1 with
    | some ds => mEnd e1 as (fn.run ds)
    | none => .bad
  else .bad := rfl
@[simp] theorem ap_mCallO : mCallO n fn fa e = (fa e).bind fun as e1 => if argsOk fn.io as = true ∧ as.length = n then match prep fn.io 0 as e1 with
    | some ds => mEnd e1 as (ownOnly (fn.run ds))
    | none => .bad
  else .bad := rfl
@[simp] theorem ap_mCallT : mCallT n fn f0 fa e = (f0 e).bind fun d e1 => (fa e1).bind fun as e2 => if fn.io = [0] ∧ as.length + 1 = n then match allVal as with
    | some ds => match fn.run (d :: ds) with
      | .ok d' _ _ => .ok d' e2
      | .exc x _ => .exc x e2
      | .bad => .bad
    | none => .bad
  else .bad := rfl
@[simp] theorem ap_mMake {c : String} : mMake n c fn fa e = (fa e).bind fun as e1 => if fn.io = [0] ∧ as.length + 1 = n then match allVal as with
    | some ds => madeOf e1 (fn.run (.ins c [] :: ds))
    | none => .bad
  else .bad := rfl
@[simp] theorem mEnd_ok {as : List Av} {d : D} {o : Bool} {ios : List (Nat × D)} : mEnd e as (.ok d o ios) = .ok d (resign e as ios (wipeE e (slsOf as))) := rfl
@[simp] theorem mEnd_exc {as : List Av} {x : Exn} {ios : List (Nat × D)} : mEnd e as (.exc x ios) = .exc x (resign e as ios (wipeE e (slsOf as))) := rfl
@[simp] theorem ownOnly_ok {d : D} {ios : List (Nat × D)} : ownOnly (.ok d true ios) = .ok d true ios := rfl
@[simp] theorem ownOnly_exc {x : Exn} {ios : List (Nat × D)} : ownOnly (.exc x ios) = .exc x ios := rfl
@[simp] theorem madeOf_ok {d : D} {o : Bool} : madeOf e (.ok .non o [(0, d)]) = .ok d e := rfl
@[simp] theorem madeOf_exc {x : Exn} {ios : List (Nat × D)} : madeOf e (.exc x ios) = .exc x e := rfl
@[simp] theorem slsOf_nil : slsOf [] = [] := rfl
@[simp] theorem slsOf_val {d : D} {r : List Av} : slsOf (.val d :: r) = slsOf r := rfl
@[simp] theorem slsOf_sl {i : Nat} {r : List Av} : slsOf (.sl i :: r) = i :: slsOf r := rfl
@[simp] theorem prep_nil {io : List Nat} {j : Nat} : prep io j [] e = some [] := rfl
@[simp] theorem prep_val {io : List Nat} {j : Nat} {d : D} {r : List Av} : prep io j (.val d :: r) e = if j ∈ io then none else (prep io (j + 1) r e).map fun ds => d :: ds := rfl
@[simp] theorem prep_sl {io : List Nat} {i j : Nat} {r : List Av} : prep io j (.sl i :: r) e = if j ∈ io then (rootD e i).bind fun p => (prep io (j + 1) r e).map fun ds => p.1 :: ds else none := rfl
@[simp] theorem resign_nil {e1 : En} {as : List Av} : resign e1 as [] e = e := rfl
@[simp] theorem resign_cons {e1 : En} {as : List Av} {j : Nat} {d : D} {r : List (Nat × D)} : resign e1 as ((j, d) :: r) e = match as[j]? with
    | some (.sl i) => match rootD e1 i with
      | some (_, mk) => (resign e1 as r e).set i (mk d)
      | none => resign e1 as r e
    | _ => resign e1 as r e := rfl
@[simp] theorem argsOk_def {io : List Nat} {as : List Av} : argsOk io as = (decide (slsOf as).Nodup && io.all fun i => decide (i < as.length)) := rfl
end
/-! operators of ints -/
@[simp] theorem iSub_int (i j : Int) : iSub (.int i) (.int j) = some (.int (i - j)) := rfl
@[simp] theorem iMul_int (i j : Int) : iMul (.int i) (.int j) = if i.natAbs ≤ 18446744073709551615 ∨ j.natAbs ≤ 18446744073709551615 then some (.int (i * j)) else none := rfl
@[simp] theorem iMod_int (i j : Int) : iMod (.int i) (.int j) = if 0 < j then some (.int (i % j)) else none := rfl
@[simp] theorem iDiv_int (i j : Int) : iDiv (.int i) (.int j) = if 0 < j ∧ j < 1073741824 then some (.int (i / j)) else none := rfl
@[simp] theorem iPow_int (i j : Int) : iPow (.int i) (.int j) = if 0 ≤ j ∧ j ≤ 1000000 ∧ i.natAbs < 2 ^ 64 then some (.int (i ^ j.toNat)) else none := rfl
@[simp] theorem iGt_int (i j : Int) : iGt (.int i) (.int j) = some (.bl (decide (j < i))) := rfl
@[simp] theorem intD_int (i : Int) : intD (.int i) = some (.int i) := rfl
@[simp] theorem lenD_lst (ds : List D) : lenD (.lst ds) = some (.int ds.length) := rfl
@[simp] theorem lenD_tup (ds : List D) : lenD (.tup ds) = some (.int ds.length) := rfl
@[simp] theorem lenD_scr (ns : List Int) : lenD (.scr ns) = some (.int ns.length) := rfl
@[simp] theorem lenD_str (z : Str) : lenD (.str z) = if z.length ≤ big then some (.int z.length) else none := rfl
@[simp] theorem ixD_lst (ds : List D) (i : Int) : ixD (.lst ds) (.int i) = atI ds i := rfl
@[simp] theorem ixD_tup (ds : List D) (i : Int) : ixD (.tup ds) (.int i) = atI ds i := rfl
@[simp] theorem ixD_scr (ns : List Int) (i : Int) : ixD (.scr ns) (.int i) = (atI ns i).map .int := rfl
@[simp] theorem ixD_str (z : Str) (i : Int) : ixD (.str z) (.int i) = if z.length ≤ big then (atI z.cps.toList i).map fun c => .str ⟨#[c]⟩ else none := rfl
@[simp] theorem setD_lst (ds : List D) (z : Int) (v : D) : setD (.lst ds) (.int z) v = (ixN ds.length z).map fun j => .lst (ds.set j v) := rfl
@[simp] theorem dIsN_non : dIsN .non .non = some (.bl true) := rfl
@[simp] theorem dNotN_non : dNotN .non .non = some (.bl false) := rfl
@[simp] theorem truD_bl (b : Bool) : truD (.bl b) = some b := rfl
@[simp] theorem truD_lst (ds : List D) : truD (.lst ds) = some (!ds.isEmpty) := rfl
@[simp] theorem truD_tup (ds : List D) : truD (.tup ds) = some (!ds.isEmpty) := rfl
@[simp] theorem tupleD_lst (ds : List D) : tupleD (.lst ds) = some (.tup ds) := rfl
@[simp] theorem listD_tup (ds : List D) : listD (.tup ds) = some (.lst ds) := rfl
@[simp] theorem listD_lst (ds : List D) : listD (.lst ds) = some (.lst ds) := rfl
theorem atI_natD {α : Type} {ds : List α} {i : Nat} {d : α} (h : ds[i]? = some d) : atI ds (i : Int) = some d := by
  unfold atI ixN
  obtain ⟨hl, h⟩ := List.getElem?_eq_some_iff.mp h
  simp [h, hl]
theorem atI_ofD {α : Type} {ds : List α} {i : Int} (h0 : 0 ≤ i) (h1 : i < ds.length) : atI ds i = ds[i.toNat]? := by
  unfold atI ixN
  have e : ((i.toNat : Nat) : Int) = i := Int.toNat_of_nonneg h0
  have hl : i.toNat < ds.length := by omega
  simp [h0, h1]
/-! ## loops -/
section
variable {tg : MG} {body : M Fl}
def turn (P : En → Prop) (Q : Out Fl → Prop) : Out Fl → Prop
  | .ok .nx e => P e
  | .ok .cnt e => P e
  | .ok .brk e => Q (.ok .nx e)
  | .ok (.ret d) e => Q (.ok (.ret d) e)
  | .ok (.retO d) e => Q (.ok (.retO d) e)
  | .exc x e => Q (.exc x e)
  | .bad => False
theorem forL_wp (P : List D → En → Prop) (Q : Out Fl → Prop) (h : ∀ d ds e, P (d :: ds) e → ∃ e1, tg d e = some e1 ∧ turn (P ds) Q (body e1)) (h0 : ∀ e, P [] e → Q (.ok .nx e)) : ∀ ds e, P ds e → Q (forL tg body ds e)
  | [], e, p => h0 e p
  | d :: ds, e, p => by
    obtain ⟨e1, h1, h2⟩ := h d ds e p
    unfold forL
    rw [h1]
    show Q ((body e1).bind _)
    cases eb : body e1 with
    | bad => rw [eb] at h2; exact h2.elim
    | exc x e2 => rw [eb] at h2; exact h2
    | ok fl e2 =>
      rw [eb] at h2
      cases fl with
      | nx => exact forL_wp P Q h h0 ds e2 h2
      | cnt => exact forL_wp P Q h h0 ds e2 h2
      | brk => exact h2
      | ret d => exact h2
      | retO d => exact h2
/-- all turns go on -/
theorem forL_nx (P : List D → En → Prop) (h : ∀ d ds e, P (d :: ds) e → ∃ e1 e2, tg d e = some e1 ∧ body e1 = .ok .nx e2 ∧ P ds e2) {ds : List D} {e : En} (p : P ds e) : ∃ e', forL tg body ds e = .ok .nx e' ∧ P [] e' :=
  forL_wp (body := body) (tg := tg) P (fun o => ∃ e', o = .ok .nx e' ∧ P [] e') (fun d ds e p => by
    obtain ⟨e1, e2, a, b, c⟩ := h d ds e p
    exact ⟨e1, a, by rw [b]; exact c⟩) (fun e p => ⟨e, rfl, p⟩) ds e p
end
theorem lcL_all {tg : MG} {tst : M Bool} {elt : M D} {vs : List Nat} (P : List D → List D → En → Prop)
    (h : ∀ d ds acc e, P (d :: ds) acc e → ∃ e1, tg d e = some e1 ∧ ((∃ e2 y e3, tst e1 = .ok true e2 ∧ elt e2 = .ok y e3 ∧ acc.length < big ∧ P ds (acc ++ [y]) (wipeE e3 vs)) ∨ (∃ e2, tst e1 = .ok false e2 ∧ P ds acc (wipeE e2 vs)))) :
    ∀ {ds acc : List D} {e : En}, P ds acc e → ∃ acc' e', lcL tg tst elt vs ds acc e = .ok (.lst acc') e' ∧ P [] acc' e'
  | [], acc, e, p => ⟨acc, e, rfl, p⟩
  | d :: ds, acc, e, p => by
    obtain ⟨e1, h1, h2⟩ := h d ds acc e p
    unfold lcL
    rw [h1]
    rcases h2 with ⟨e2, y, e3, a, b, c, q⟩ | ⟨e2, a, q⟩
    · obtain ⟨acc', e', i1, i2⟩ := lcL_all P h q
      refine ⟨acc', e', ?_, i2⟩
      simp only [a, Out.nox, bind_ok, if_true, b, if_pos c]
      exact i1
    · obtain ⟨acc', e', i1, i2⟩ := lcL_all P h q
      refine ⟨acc', e', ?_, i2⟩
      simp only [a, Out.nox, bind_ok, if_false, Bool.false_eq_true]
      exact i1
end Pu
namespace Pu
open PySem PySem.Spec L2
open PyProof.Rows hiding St
def tabT (l : List (String × Addr)) (x : String) : Addr := (l.lookup x).getD 0
def spLaw (K : PySem.W.Frag) : Sp := fun vs H Q _ => ∃ (a : Addr) (ns : List Int), vs = [.ref a] ∧ SqL K H a (ns.map V.int) ∧ ns.length ≤ 63 ∧ Only H ∧ ∀ H', Q (.bl true) H'
theorem law_end {P : Program} {w : World} {K : PySem.W.Frag} {mg : Str → Option Value} {base : Heap} {T : Tx} {k : Nat} {f : Addr} {fd : FuncData} {m : Fn} (hT : ∀ a ns, (∀ H, SqL K H a (ns.map V.int)) → T.sc a ns) (F : FnOk P w K mg base (L2.CX P w) k f fd ["script"] (spF T 1 m)) (hio : m.io = [])
    (ht : ∀ ns : List Int, ns.length ≤ 63 → m.run [.scr ns] = .ok (.bl true) false []) : FnOk P w K mg base (L2.CX P w) k f fd ["script"] (spLaw K) := by
  refine F.imp fun vs H Q E h => ?_
  obtain ⟨a, ns, rfl, hS, hl, hO, hQ⟩ := h
  have core : ∀ F : Addr → Prop, (∀ b, F b → ∃ o, H b = some o) → Rep T F H (.scr ns) (.ref a) → spF T 1 m [.ref a] H Q E := fun F hF r => by
    refine ⟨rfl, [.scr ns], F, ⟨rfl, fun i d hd hi => ?_, fun i d hd hi => ?_, fun i j b ij hi => ?_⟩, hF, ?_⟩
    · cases i with
      | zero => cases hd; exact ⟨_, rfl, r⟩
      | succ i => cases hd
    · rw [hio] at hi; cases hi
    · rw [hio] at hi; cases hi
    · rw [ht ns hl]
      intro F' H' v A rv
      cases rv
      exact hQ H'
  rcases hS with hS | hS
  · rcases hS with z | ⟨o, z⟩
    · rcases hO a with q | ⟨o, xs, q⟩
      · rw [q] at z; cases z
      · rw [q] at z; cases z
    · exact core (fun b => b = a) (fun b hb => by subst hb; exact ⟨_, z⟩) (.scr (.inl ⟨rfl, o, z⟩))
  · exact core (fun _ => False) (fun _ h => h.elim) (.scr (.inr (hT a ns fun H => .inr hS)))
/-- the law's def, from what the top has written -/
theorem law_mk {K : PySem.W.Frag} {mg : Str → Option Value} {P : Program} {w : World} {T : Tx} {fa : Addr} {x : String} {st : Stmt} {k : Nat} {m : Fn} {Txt : Prop} (t : Txt) (f : Txt → ∃ fd, DefT K mg T x "law" "law" st ["script"] fd) (hmg : mg "law" = some (.ref fa))
    (F : ∀ (t : Txt) {base : Heap} {fd : FuncData}, DefT K mg T x "law" "law" st ["script"] fd → FnOk P w K mg base (L2.CX P w) k (T.fn x) fd ["script"] (spF T 1 m)) (ht : ∀ ns : List Int, ns.length ≤ 63 → m.run [.scr ns] = .ok (.bl true) false []) (hio : m.io = [])
    (hT : ∀ a ns, (∀ H, SqL K H a (ns.map V.int)) → T.sc a ns)
    (hb : ∀ (kV doc pm : Value) (an : Option Addr) (cdv ct u : Value), bindArgs (PySem.W.fnOf "law" "law" (defArgs st) (defBody st) (defScope st) .none kV doc pm an cdv ct) ⟨[u], []⟩ = pure [(("script" : Str), u)]) :
    ∃ fd : FuncData, (∀ (s : Shared) (u : Value), BindsTo s fd ⟨[u], []⟩ [("script", u)]) ∧ ∀ base : Heap, K.In base → base.Ns mainGlobals mg → FnOk P w K mg base (L2.CX P w) k fa fd ["script"] (spLaw K) := by
  obtain ⟨fd, D⟩ := f t
  have e := hmg.symm.trans D.gl
  cases e
  refine ⟨fd, fun s u => ?_, fun base _ _ => law_end hT (F t D) hio ht⟩
  obtain ⟨oc, od, kV, doc, pm, an, cdv, ct, osl, rfl, _, _⟩ := D.fn.ex
  exact .of_eq (hb _ _ _ _ _ _ _)
theorem cx_false {P : Program} {w : World} {H : Hp} {s s' : Shared} {e : Value} (h : L2.CX P w [] H s (fun _ _ _ => False) e s') : False := by
  obtain ⟨_, _, _, _, _, _, _, _, _, _, _, _, z⟩ := h
  exact z
theorem kit_cls {K : PySem.W.Frag} {C D : Addr} {b : Bool} (i : PySem.W.isClsIn K D = true) (t : PySem.W.typeIn K (.ref D) = some (.type "type")) (s : PySem.W.subIn K (.ref C) (.ref D) = some b) : PySem.W.kitCls K (.ref C) (.ref D) = some b := by
  have e : ((PySem.W.clsIn K D).isSome && PySem.W.typeIn K (.ref D) == some (.type "type")) = true := by
    have i' : (PySem.W.clsIn K D).isSome = true := i
    rw [i', t] <;> rfl
  show (if ((PySem.W.clsIn K D).isSome && PySem.W.typeIn K (.ref D) == some (.type "type")) = true then PySem.W.subIn K (.ref C) (.ref D) else none) = some b
  rw [if_pos e]
  exact s
theorem kit_one {K : PySem.W.Frag} {C D : Addr} {b : Bool} (i : PySem.W.isClsIn K D = true) (t : PySem.W.typeIn K (.ref D) = some (.type "type")) (s : PySem.W.subIn K (.ref C) (.ref D) = some b) (ss : PySem.W.subIn K (.ref C) (.ref C) = some true) : PySem.W.kitOne K (.ref C) (.ref D) = some b := by
  show (if (Value.ref C == Value.ref D) = true then some true else PySem.W.kitCls K (.ref C) (.ref D)) = some b
  split
  · rename_i e
    have e' : C = D := by simpa using e
    subst e'
    rw [ss] at s
    exact s
  · exact kit_cls i t s
theorem exm_one {K : PySem.W.Frag} {C D : Addr} {b : Bool} (i : PySem.W.isClsIn K D = true) (t : PySem.W.typeIn K (.ref D) = some (.type "type")) (x : PySem.W.subIn K (.ref D) (.type "BaseException") = some true) (s : PySem.W.subIn K (.ref C) (.ref D) = some b) : PySem.W.exmOne K (.ref C) (.ref D) = some b := by
  have e1 : (PySem.W.subIn K (.ref D) (.type "BaseException") == some true) = true := by rw [x] <;> rfl
  show (if (PySem.W.subIn K (.ref D) (.type "BaseException") == some true) = true then PySem.W.kitCls K (.ref C) (.ref D) else none) = some b
  rw [if_pos e1]
  exact kit_cls i t s
end Pu
namespace Pu
open PySem PySem.Spec L2
open PyProof.Rows hiding St

/-! ## pairs of ints as data -/
def pyP (p : IP) : PyData := .tuple [.int p.1, .int p.2]
@[simp] theorem toPy_pair (p : IP) : toPy (pairD p) = some (pyP p) := rfl
@[simp] theorem toPyL_pairs : ∀ ps : List IP, toPyL (ps.map pairD) = some (ps.map pyP)
  | [] => rfl
  | p :: ps => by rw [List.map_cons]; unfold toPyL; rw [toPy_pair, toPyL_pairs ps]; rfl
theorem eqv_pair (p q : IP) : PyData.eqv (pyP p) (pyP q) = decide (p = q) := by
  obtain ⟨a, b⟩ := p
  obtain ⟨c, d⟩ := q
  simp [pyP, PyData.eqv, PyData.eqvAll]
  by_cases h : a = c <;> by_cases h2 : b = d <;> simp [h, h2]
theorem eqvAll_pairs : ∀ ps qs : List IP, PyData.eqvAll (ps.map pyP) (qs.map pyP) = decide (ps = qs)
  | [], [] => rfl
  | [], _ :: _ => rfl
  | _ :: _, [] => rfl
  | p :: ps, q :: qs => by
    rw [List.map_cons, List.map_cons]
    unfold PyData.eqvAll
    rw [eqv_pair, eqvAll_pairs ps qs]
    by_cases h : p = q <;> by_cases h2 : ps = qs <;> simp [h, h2]
theorem lay_pairs : ∀ ps : List IP, PyData.canLayAll0 (ps.map pyP) = true
  | [] => rfl
  | p :: ps => by
    rw [List.map_cons]
    unfold PyData.canLayAll0
    rw [lay_pairs ps]
    rfl
theorem depth_pairs : ∀ ps : List IP, PyData.depthAll (ps.map pyP) ≤ 3
  | [] => by rw [List.map_nil]; unfold PyData.depthAll; omega
  | p :: ps => by
    rw [List.map_cons]
    unfold PyData.depthAll
    have h := depth_pairs ps
    have h2 : PyData.depth (pyP p) ≤ 3 := by
      simp [pyP, PyData.depth, PyData.depthAll]
    omega
theorem shaped_pair (p : IP) : SeqAt.shaped (pyP p) = true := by
  simp [SeqAt.shaped, pyP, PyData.canLay0, PyData.canLayAll0, PyData.depth, PyData.depthAll]
theorem shaped_list (ps : List IP) : SeqAt.shaped (.list (ps.map pyP)) = true := by
  have h := depth_pairs ps
  have e1 : PyData.canLay0 (.list (ps.map pyP)) = true := by rw [PyData.canLay0]; exact lay_pairs ps
  have e2 : PyData.depth (.list (ps.map pyP)) = PyData.depthAll (ps.map pyP) + 1 := by rw [PyData.depth]
  exact Bool.and_eq_true_iff.mpr ⟨e1, decide_eq_true (by rw [e2]; omega)⟩
@[simp] theorem dEq_lists (ps qs : List IP) : dEq (.lst (ps.map pairD)) (.lst (qs.map pairD)) = some (.bl (decide (ps = qs))) := by
  have e1 : toPy (.lst (ps.map pairD)) = some (.list (ps.map pyP)) := by unfold toPy; rw [toPyL_pairs]; rfl
  have e2 : toPy (.lst (qs.map pairD)) = some (.list (qs.map pyP)) := by unfold toPy; rw [toPyL_pairs]; rfl
  have z : eqD (.lst (ps.map pairD)) (.lst (qs.map pairD)) = some (decide (ps = qs)) := by
    unfold eqD
    simp only [e1, e2, Option.bind_some, shaped_list, and_self, if_true]
    rw [show PyData.eqv (.list (ps.map pyP)) (.list (qs.map pyP)) = PyData.eqvAll (ps.map pyP) (qs.map pyP) from by rw [PyData.eqv], eqvAll_pairs]
  unfold dEq
  rw [z]
  rfl
@[simp] theorem dNe_pair (p q : IP) : dNe (pairD p) (pairD q) = some (.bl (!decide (p = q))) := by
  have z : eqD (pairD p) (pairD q) = some (decide (p = q)) := by
    show ((toPy (pairD p)).bind fun a => (toPy (pairD q)).bind fun b => if SeqAt.shaped a = true ∧ SeqAt.shaped b = true then some (PyData.eqv a b) else none) = _
    simp only [toPy_pair, Option.bind_some, shaped_pair, and_self, if_true, eqv_pair]
  unfold dNe
  rw [z]
  rfl
theorem any_pairs (p : IP) : ∀ ps : List IP, (ps.map pyP).any (fun z => PyData.eqv z (pyP p)) = decide (p ∈ ps)
  | [] => by simp
  | q :: ps => by
    rw [List.map_cons, List.any_cons, any_pairs p ps, eqv_pair]
    by_cases h : q = p
    · simp [h]
    · have h' : ¬ p = q := fun z => h z.symm
      simp [h, h']
theorem inD_tup (p : IP) (ps : List IP) : inD (pairD p) (.tup (ps.map pairD)) = some (decide (p ∈ ps)) := by
  have e1 : inS (pairD p) (.tup (ps.map pairD)) = none := rfl
  have e2 : inQ (pairD p) (.tup (ps.map pairD)) = some (decide (p ∈ ps)) := by
    unfold inQ
    simp only [seqD, Option.bind_some, toPy_pair, toPyL_pairs, shaped_pair, shaped_list, and_self, if_true, any_pairs]
  unfold inD
  rw [e1, e2]
  rfl
@[simp] theorem dIn_tup (p : IP) (ps : List IP) : dIn (pairD p) (.tup (ps.map pairD)) = some (.bl (decide (p ∈ ps))) := by unfold dIn; rw [inD_tup]; rfl
@[simp] theorem dNotIn_tup (p : IP) (ps : List IP) : dNotIn (pairD p) (.tup (ps.map pairD)) = some (.bl (!decide (p ∈ ps))) := by unfold dNotIn; rw [inD_tup]; rfl
@[simp] theorem dEq_int (i j : Int) : dEq (.int i) (.int j) = some (.bl (decide (i = j))) := rfl
@[simp] theorem dNe_int (i j : Int) : dNe (.int i) (.int j) = some (.bl (!decide (i = j))) := rfl
theorem inS_sign (c : Nat) (z : Str) : inS (.str ⟨#[c]⟩) (.str z) = some (decide (c ∈ z.cps.toList)) := rfl
@[simp] theorem dIn_sign (c : Nat) (z : Str) : dIn (.str ⟨#[c]⟩) (.str z) = some (.bl (decide (c ∈ z.cps.toList))) := by unfold dIn inD; rw [inS_sign]; rfl
@[simp] theorem dNotIn_sign (c : Nat) (z : Str) : dNotIn (.str ⟨#[c]⟩) (.str z) = some (.bl (!decide (c ∈ z.cps.toList))) := by unfold dNotIn inD; rw [inS_sign]; rfl

theorem rng1_nat (n : Nat) (h : n ≤ 1000000) : rng1D (.int (n : Nat)) = some (rngD 0 n) := by
  have e : Pu.inR (n : Nat) = true := by
    unfold Pu.inR
    exact decide_eq_true (by omega)
  show (if Pu.inR (n : Nat) = true then some (rngD 0 ((n : Int)).toNat) else none) = _
  rw [if_pos e]
  rfl
theorem rngD_len (lo : Int) (n : Nat) : (rngD lo n).length = n := by simp [rngD]
/-- i, i + 1, .. -/
def rr : Nat → Nat → List D
  | _, 0 => []
  | i, m + 1 => .int (i : Nat) :: rr (i + 1) m
theorem rr_len : ∀ i m, (rr i m).length = m
  | _, 0 => rfl
  | i, m + 1 => by unfold rr; rw [List.length_cons, rr_len]
theorem rr_eq : ∀ m i, rr i m = (List.range' i m).map fun j => D.int (0 + (j : Nat))
  | 0, _ => rfl
  | m + 1, i => by
    unfold rr
    rw [List.range'_succ, List.map_cons, rr_eq m (i + 1), Int.zero_add]
theorem rngD_rr (n : Nat) : rngD 0 n = rr 0 n := by
  rw [rr_eq]
  unfold rngD
  rw [List.range_eq_range']
theorem rng1_rr (n : Nat) (h : n ≤ 1000000) : rng1D (.int (n : Nat)) = some (rr 0 n) := by rw [rng1_nat n h, rngD_rr]
/-- a row of signs -/
def rowD (cs : List Nat) : D := .str ⟨cs.toArray⟩
def sgn (c : Nat) : D := .str ⟨#[c]⟩
theorem row_len (cs : List Nat) : (⟨cs.toArray⟩ : Str).length = cs.length := by unfold Str.length; simp
theorem lenD_row (cs : List Nat) (h : cs.length ≤ 1000) : lenD (rowD cs) = some (.int (cs.length : Nat)) := by
  show (if (⟨cs.toArray⟩ : Str).length ≤ big then some (D.int ((⟨cs.toArray⟩ : Str).length : Nat)) else none) = _
  rw [row_len, if_pos (by unfold big; omega)]
theorem ix_row {cs : List Nat} {j c : Nat} (h : cs.length ≤ 1000) (e : cs[j]? = some c) : ixD (rowD cs) (.int (j : Nat)) = some (sgn c) := by
  show (if (⟨cs.toArray⟩ : Str).length ≤ big then (atI (⟨cs.toArray⟩ : Str).cps.toList (j : Int)).map fun c => D.str ⟨#[c]⟩ else none) = _
  rw [row_len, if_pos (by unfold big; omega), atI_natD e]
  rfl
theorem ix_rows {rs : List (List Nat)} {i : Nat} {cs : List Nat} (e : rs[i]? = some cs) : ixD (.lst (rs.map rowD)) (.int (i : Nat)) = some (rowD cs) := by
  rw [ixD_lst]
  exact atI_natD (by rw [List.getElem?_map, e]; rfl)
theorem ix_rowsT {rs : List (List Nat)} {i : Nat} {cs : List Nat} (e : rs[i]? = some cs) : ixD (.tup (rs.map rowD)) (.int (i : Nat)) = some (rowD cs) := by
  rw [ixD_tup]
  exact atI_natD (by rw [List.getElem?_map, e]; rfl)
/-! ## strictly ascending -/
theorem strict_iff (ps : List IP) : ps = sortL (undup ps) ↔ ps.Pairwise (fun p q => pLt p q = true) := by
  constructor
  · intro h
    have a : Asc ps := by rw [h]; exact sortL_asc _
    have n : ps.Nodup := by rw [h]; exact (sortL_perm _).nodup_iff.mpr (undup_nodup ps)
    refine List.Pairwise.imp₂ (fun p q h1 h2 => ?_) a n
    cases c : pLt p q with
    | true => rfl
    | false => exact absurd (pLt_anti c h1).symm h2
  · intro h
    have lt_ne : ∀ p q : IP, pLt p q = true → p ≠ q := fun p q h e => by
      subst e
      have := pLt_iff.mp h
      omega
    have lt_no : ∀ p q : IP, pLt p q = true → pLt q p = false := fun p q h => by
      rw [pLt_no]
      have := pLt_iff.mp h
      omega
    have a : Asc ps := List.Pairwise.imp (fun {p q} h => lt_no p q h) h
    have n : ps.Nodup := List.Pairwise.imp (fun {p q} h => lt_ne p q h) h
    refine asc_uniq a (sortL_asc _) ?_
    refine List.Perm.trans ?_ (sortL_perm (undup ps)).symm
    exact (List.perm_ext_iff_of_nodup n (undup_nodup ps)).mpr fun z => undup_mem.symm
theorem pLt_trans {p q r : IP} (h1 : pLt p q = true) (h2 : pLt q r = true) : pLt p r = true := by
  rw [pLt_iff] at *
  omega
end Pu
/-! t[::-1] of a tuple -/
namespace HT
open PySem PySem.Spec PyProof.Rows
section
variable {prog : Program} {w : World} {A : Around} {E : Value → Shared → Prop} {s : Shared}
theorem adjust_rev (n : Nat) : Builtin.Slice.sliceAdjust none none (-1) (n : Int) = ((n : Int) - 1, -1) := rfl
theorem places_rev (n : Nat) : Builtin.Slice.slicePlaces ((n : Int) - 1) (-1) (-1) = n := by
  unfold Builtin.Slice.slicePlaces
  have h1 : ¬ ((-1 : Int) > 0) := by omega
  have h2 : (-(-1) : Int) = 1 := rfl
  simp only [h1, if_false, h2, Int.ediv_one]
  split <;> omega
theorem sliceApplied_rev {sl : Addr} {vl vu vs : Value} {n : Nat} {Q : Int × Int × Nat → Shared → Prop} (hs : s.heap.IsSliceOf sl vl vu vs) (pl : IsPart vl none) (pu : IsPart vu none) (ps : IsPart vs (some (-1)))
    (h : Q ((n : Int) - 1, -1, n) s) : wpAny (model prog w) A (Builtin.Slice.sliceApplied (.ref sl) (pure (n : Int))) Q E s := by
  obtain ⟨os, hos, hcs, hds⟩ := id hs
  unfold Builtin.Slice.sliceApplied Builtin.Slice.sliceFields
  refine wpAny_bind (wpAny_bind (wpAny_field hos hds (x := vl) rfl (wpAny_bind (wpAny_field hos hds (x := vu) rfl (wpAny_bind (wpAny_field hos hds (x := vs) rfl (wpAny_pure ?_)))))))
  refine wpAny_bind (slicePart_ ps ?_)
  show wpAny _ _ (if ((-1 : Int) == 0) = true then _ else _) _ _ s
  rw [if_neg (by decide)]
  refine wpAny_bind (slicePart_ pl (wpAny_bind (slicePart_ pu (wpAny_bind (wpAny_pure ?_)))))
  show wpAny _ _ (match Builtin.Slice.sliceAdjust none none (-1) (n : Int) with | (lo, hi) => pure (lo, (-1 : Int), Builtin.Slice.slicePlaces lo hi (-1))) _ _ s
  rw [adjust_rev n]
  show wpAny _ _ (pure (((n : Int) - 1), (-1 : Int), Builtin.Slice.slicePlaces ((n : Int) - 1) (-1) (-1))) _ _ s
  rw [places_rev]
  exact wpAny_pure h
theorem pick_rev (xs : Array Value) : ((List.range xs.size).filterMap fun (m : Nat) => xs[(((xs.size : Int) - 1) + (m : Int) * (-1)).toNat]?).toArray = xs.toList.reverse.toArray := by
  congr 1
  have cong : ∀ {f g : Nat → Option Value} (l : List Nat), (∀ m ∈ l, f m = g m) → l.filterMap f = l.filterMap g := by
    intro f g l
    induction l with
    | nil => intro _; rfl
    | cons a l ih =>
      intro h
      rw [List.filterMap_cons, List.filterMap_cons, h a List.mem_cons_self, ih fun m hm => h m (List.mem_cons_of_mem _ hm)]
  have e : (List.range xs.size).filterMap (fun (m : Nat) => xs[(((xs.size : Int) - 1) + (m : Int) * (-1)).toNat]?) = (List.range xs.size).filterMap (fun m => xs.toList.reverse[m]?) := by
    refine cong _ fun m hm => ?_
    have hm : m < xs.size := List.mem_range.mp hm
    have e1 : (((xs.size : Int) - 1) + (m : Int) * (-1)).toNat = xs.size - 1 - m := by omega
    rw [e1, List.getElem?_reverse (by simpa using hm)]
    simp
  rw [e]
  have key : ∀ l : List Value, (List.range l.length).filterMap (fun m => l[m]?) = l := by
    intro l
    induction l with
    | nil => rfl
    | cons a l ih =>
      rw [List.length_cons, List.range_succ_eq_map, List.filterMap_cons]
      simp only [List.getElem?_cons_zero, List.filterMap_map]
      congr 1
  have := key xs.toList.reverse
  simpa using this
theorem getItem_tuple_rev {t sl : Addr} {items : Array Value} {vl vu vs : Value} {Q : Value → Shared → Prop} (ht : IsTup s.heap t items) (hs : s.heap.IsSliceOf sl vl vu vs) (pl : IsPart vl none) (pu : IsPart vu none) (ps : IsPart vs (some (-1)))
    (h : Q (.ref s.heap.objs.size) { s with heap := s.heap.push { cls := .type "tuple", data := .seq items.toList.reverse.toArray } })
    (hsz : items.size ≤ sizeLine) : wpAny (model prog w) A (getItem (.ref t) (.ref sl)) Q E s := by
  have htake : sizeOk (.seq items.toList.reverse.toArray) := by
    show items.toList.reverse.toArray.size ≤ sizeLine
    rw [List.size_toArray, List.length_reverse, Array.length_toList]
    exact hsz
  obtain ⟨os, hos, hcs, hds⟩ := id hs
  have hTs : s.TypeIs (.ref sl) "slice" := ⟨os, hos, hcs⟩
  unfold getItem
  try with_reducible refine wpAny_holding ?_
  first | refine wpAny_bind (wpAny_pure ?_) | skip
  refine wpAny_bind (wpAny_sequenceKey ht.typeIs (by decide) ?_)
  refine wpAny_bind (wpAny_callSpecial?_slot (name := Str.ofString "__getitem__") ht.typeIs PyProof.Rows.slot_tuple_getitem
    (wpAny_call_entry PyProof.Rows.slot_tuple_getitem ht.typeIs entry_tuple_getitem ?_ (args_tuple_getitem _ _)))
  show wpAny _ _ (Builtin.Tuple.tupleItemsOf (.ref t) >>= _) _ _ s
  refine wpAny_bind (tupleItemsOf_ ht ?_)
  refine wpAny_bind (wpAny_typeOf hTs ?_)
  rw [if_pos (by decide)]
  refine wpAny_bind (sliceApplied_rev hs pl pu ps ?_)
  have hno : ¬ ((((items.size : Int) - 1) == 0 && (-1 : Int) == 1 && items.size == items.size) = true) := by
    intro q
    rw [Bool.and_eq_true, Bool.and_eq_true] at q
    exact absurd q.1.2 (by decide)
  show wpAny _ _ (if ((((items.size : Int) - 1) == 0 && (-1 : Int) == 1 && items.size == items.size) = true) then _ else _) _ _ s
  rw [if_neg hno, pick_rev]
  first
    | exact wpAny_bind (m := Builtin.Tuple.tupleExact _) (wpAny_newObj_type (wpAny_pure ⟨_, rfl, wpAny_pure h⟩) htake)
    | exact wpAny_bind (m := Builtin.Tuple.tupleExact _) (wpAny_newObj_type (wpAny_bind (wpAny_pure (wpAny_pure ⟨_, rfl, wpAny_pure h⟩))) htake)
    | exact wpAny_bind (wpAny_bind (m := Builtin.Tuple.tupleExact _) (wpAny_newObj_type (wpAny_pure (wpAny_pure ⟨_, rfl, wpAny_pure h⟩)) htake))
    | exact wpAny_bind (wpAny_bind (m := Builtin.Tuple.tupleExact _) (wpAny_newObj_type (wpAny_pure ⟨_, rfl, wpAny_pure h⟩) htake))
end
end HT
namespace L2
open PySem PySem.Spec PyProof.Rows
section
variable {X : Cx}
def tRevT (K : PySem.W.Frag) (te : TE) : TE := fun σ H Q => te σ H fun x H1 => ∃ a xs, x = .ref a ∧ ((SqL K H1 a xs ∧ ∀ p, H1 p = none → Q (.ref p) (upd H1 p (.lst xs.reverse))) ∨ (SqT K H1 a xs ∧ ∀ p, H1 p = none → Q (.ref p) (upd H1 p (.tup xs.reverse))))
theorem pe_revA {e : Expr} {te : TE} {k : Nat} {p1 p2 p3 pos : Pos} (he : PE X e te) : PE X (.Subscript e (.Slice none none (some (.UnaryOp .USub (.Constant (.int 1) k p1) p2)) p3) pos) (tRevT X.K te) := by
  refine ⟨fun pins s σ H Q I h => ?_⟩
  refine Subscript_ (thn (he.run pins s σ H _ I h) fun v s1 ⟨x, H1, I1, r1, q1⟩ => ?_)
  obtain ⟨a, xs, ex, q⟩ := q1
  subst ex
  cases r1
  have hst : PO X (some (.UnaryOp .USub (.Constant (.int 1) k p1) p2)) (tPart (tUn (rU fun i => .int (-i)) (tC (.int 1)))) := po_some (pe_un un_neg pe_int)
  refine wpAny_Slice (thn (po_none.run pins s1 σ H1 (fun o H2 => o = none ∧ H2 = H1) I1 ⟨rfl, rfl⟩) fun vl s2 ⟨l, H2, I2, pl, el, e2⟩ => ?_)
  subst el e2
  refine thn (po_none.run pins s2 σ H2 (fun o H3 => o = none ∧ H3 = H2) I2 ⟨rfl, rfl⟩) fun vu s3 ⟨u, H3, I3, pu, eu, e3⟩ => ?_
  subst eu e3
  refine thn (hst.run pins s3 σ H3 (fun o H4 => o = some (-1) ∧ H4 = H3) I3 ⟨1, rfl, -1, rfl, rfl, rfl⟩) fun vs s4 ⟨o, H4, I4, ps, eo, e4⟩ => ?_
  subst eo e4
  have I5 : Inv X pins σ H4 { s4 with heap := s4.heap.push { cls := .type "slice", data := .fields #[vl, vu, vs] } } := I4.kept (t' := s4.toks) fun b ob q => Heap.get?_push_of_some _ q
  show wpAny (model X.prog X.w) X.A (subscriptTail e (.Slice none none (some (.UnaryOp .USub (.Constant (.int 1) k p1) p2)) p3) (.ref a) (.ref s4.heap.objs.size)) (EP X pins σ Q) X.xe { s4 with heap := s4.heap.push { cls := .type "slice", data := .fields #[vl, vu, vs] } }
  rcases q with ⟨hx, q⟩ | ⟨hx, q⟩
  · obtain ⟨its, r, ht, hz⟩ := I5.list hx
    have hlen := r.length
    refine tail_any (ops := [.ref a, .ref s4.heap.objs.size]) ht.isList.typeIs (PySem.slot_list_getitem.lookup) ?_ (by with_unfolding_all rfl)
    refine wpAny_getItem_list_slice ht.isList (Heap.IsSliceOf.new _ vl vu vs) pl pu ps (by decide) ?_ (by rw [List.size_toArray]; omega)
    rw [PySem.W.krv_pick]
    refine ⟨.ref _, _, I5.laid (t' := s4.toks) (o := .lst xs.reverse) (fun b ob q => Heap.get?_push_of_some _ q) (Nat.le_refl _) ?_, rfl, q _ (I5.hok.fresh (Nat.le_refl _))⟩
    exact ⟨by rw [List.length_reverse]; exact hz, _, 0, r.reverse, Heap.get?_push_size _ rfl⟩
  · obtain ⟨its, r, ht, hz⟩ := I5.tuple hx
    have hlen := r.length
    refine tail_any (ops := [.ref a, .ref s4.heap.objs.size]) ht.typeIs (PyProof.Rows.slot_tuple_getitem.lookup) ?_ (by with_unfolding_all rfl)
    refine HT.getItem_tuple_rev ht (Heap.IsSliceOf.new _ vl vu vs) pl pu ps ?_ (by rw [List.size_toArray]; omega)
    refine ⟨.ref _, _, I5.laid (t' := s4.toks) (o := .tup xs.reverse) (fun b ob q => Heap.get?_push_of_some _ q) (Nat.le_refl _) ?_, rfl, q _ (I5.hok.fresh (Nat.le_refl _))⟩
    exact ⟨by rw [List.length_reverse]; exact hz, _, r.reverse, IsTup.new _ _⟩
end
end L2
namespace Pu
open PySem PySem.Spec L2
open PyProof.Rows hiding St
section
variable {X : Cx} {T : Tx} {W : WX}
/-- xs[::-1] of a list, a tuple -/
def eRevA (fa : M D) : M D := fun env => (fa env).bind fun d e => match d with
  | .lst ds => .ok (.lst ds.reverse) e
  | .tup ds => if evish ds.reverse = false then .ok (.tup ds.reverse) e else .bad
  | _ => .bad
@[simp] theorem ap_eRevA {fa : M D} {e : En} : eRevA fa e = (fa e).bind fun d e => match d with
  | .lst ds => .ok (.lst ds.reverse) e
  | .tup ds => if evish ds.reverse = false then .ok (.tup ds.reverse) e else .bad
  | _ => .bad := rfl
theorem PX.revA {a : Expr} {fa : M D} {k : Nat} {p1 p2 p3 pos : Pos} (ha : PXB X T W a fa) : PX X T W (.Subscript a (.Slice none none (some (.UnaryOp .USub (.Constant (.int 1) k p1) p2)) p3) pos) (eRevA fa) := by
  obtain ⟨ta, qa, pa⟩ := ha.ex
  refine ⟨_, pe_revA qa, fun g F H σ env Q S G => pa g F H σ env _ S (Goal.bind (fun _ h => h) G fun d e1 F1 H1 σ1 _ hs S1 E1 G1 v1 r1 => ?_)⟩
  subst hs
  cases d with
  | lst ds =>
    obtain ⟨a, xs, rfl, ha, ra⟩ := r1.lst
    refine ⟨a, xs, rfl, .inl ⟨.of ha, fun p hp => ?_⟩⟩
    obtain ⟨F', S', E', r'⟩ := new_lst S1 hp ra.reverse
    exact G1 F' _ σ1 rfl S' E' _ r'
  | tup ds =>
    obtain ⟨a, xs, rfl, fa, ha, ra⟩ := r1.tup
    by_cases hev : evish ds.reverse = false
    · simp only [if_pos hev] at G1
      refine ⟨a, xs, rfl, .inr ⟨.inl ha, fun p hp => ?_⟩⟩
      obtain ⟨F', S', E', r'⟩ := new_tup S1 hp ra.reverse hev
      exact G1 F' _ σ1 rfl S' E' _ r'
    · simp only [if_neg hev] at G1
      exact G1.elim
  | _ => exact G1.elim
end
end Pu
namespace Pu
open PySem PySem.Spec L2
open PyProof.Rows hiding St
theorem bt_str : bootBuiltins "str" = some (.type "str") := by decide +kernel
theorem bt_bool : bootBuiltins "bool" = some (.type "bool") := by decide +kernel
/-! ## isinstance(e, T), T a built-in class, e plain data -/
def tyD : D → Option String
  | .non => some "NoneType"
  | .bl _ => some "bool"
  | .int _ => some "int"
  | .str _ => some "str"
  | .tup _ => some "tuple"
  | .lst _ => some "list"
  | _ => none
def isTab : String → String → Option Bool
  | "NoneType", "tuple" => some false
  | "bool", "tuple" => some false
  | "int", "tuple" => some false
  | "str", "tuple" => some false
  | "tuple", "tuple" => some true
  | "list", "tuple" => some false
  | "NoneType", "bool" => some false
  | "bool", "bool" => some true
  | "int", "bool" => some false
  | "str", "bool" => some false
  | "tuple", "bool" => some false
  | "list", "bool" => some false
  | "NoneType", "int" => some false
  | "bool", "int" => some true
  | "int", "int" => some true
  | "str", "int" => some false
  | "tuple", "int" => some false
  | "list", "int" => some false
  | "NoneType", "str" => some false
  | "bool", "str" => some false
  | "int", "str" => some false
  | "str", "str" => some true
  | "tuple", "str" => some false
  | "list", "str" => some false
  | _, _ => none
theorem isTab_ok {K : PySem.W.Frag} {t c : String} {b : Bool} (h : isTab t c = some b) : PySem.W.kitOne K (.type t) (.type c) = some b := by
  unfold isTab at h
  split at h <;> first | (cases h; rfl) | (cases h)
def isiD (c : String) (d : D) : Option D := (tyD d).bind fun t => (isTab t c).map .bl
section
variable {X : Cx} {T : Tx} {W : WX}
theorem RepB.tyx {K : PySem.W.Frag} {F : Addr → Prop} {H : Hp} {d : D} {v : V} {t : String} (r : RepB T F H d v) (h : tyD d = some t) : TyX K H v (.type t) := by
  cases d with
  | non => cases h; rw [r.non]; exact .base .non
  | bl b => cases h; rw [r.bl]; exact .base (.bl b)
  | int i => cases h; rw [r.int]; exact .base (.int i)
  | str z => cases h; rw [r.str]; exact .base (.str z)
  | tup ds =>
    cases h
    obtain ⟨a, xs, rfl, fa, ha, _⟩ := r.tup
    rcases ha with ha | ⟨o, ha⟩
    · exact .base (.tup ha)
    · exact .fTuple ha
  | lst ds =>
    cases h
    have key : ∃ a xs, v = .ref a ∧ (H a = some (.lst xs) ∨ ∃ o, H a = some (.frz o (.lst xs))) := by
      obtain ⟨a, xs, e, ha, _⟩ := r.lst
      exact ⟨a, xs, e, .inl ha⟩
    obtain ⟨a, xs, rfl, ha | ⟨o, ha⟩⟩ := key
    · exact .base (.lst ha)
    · exact .base (.frz ha)
  | _ => cases h
theorem PX.isT {c : String} {x : Str} {e : Expr} {fe : M D} {p p2 pos : Pos} (he : PXB X T W e fe) (hm : X.mg "isinstance" = none) (hm2 : X.mg x = none) (hv : bootBuiltins x = some (.type c)) (hg : Gl X "isinstance" := by rfl) (hg2 : Gl X x := by rfl) (hn : x ≠ "__name__" := by decide) (hd : (x == ("__debug__" : Str)) = false := by decide)
    (hs : starEach (e :: [Expr.Name x p2]) X.env = (false, eval e X.env) :: starEach [Expr.Name x p2] X.env := by rfl) (hs2 : starEach ([Expr.Name x p2]) X.env = (false, eval (.Name x p2) X.env) :: starEach [] X.env := by rfl) (hpl : (backTo pos (starEach [Expr.Name x p2] X.env)).any (·.1) = false := by rfl) :
    PX X T W (.Call (.Name "isinstance" p) [e, .Name x p2] [] pos) (eB1 (isiD c) fe) := by
  obtain ⟨te, qe, pe⟩ := he.ex
  refine ⟨_, pe_callB call_isi hg hm PyProof.Rows.boot_isinstance (pa_cons qe (pa_cons (pe_bltn (v := .ty c) hg2 hm2 hv rfl hn hd) pa_nil hs2) hs) (by decide) (by decide) hs hpl, fun g F H σ env Q S G => ?_⟩
  refine pe g F H σ env _ S (Goal.bind (fun _ h => h) G fun d e1 F1 H1 σ1 _ hs S1 E1 G1 v r => ?_)
  subst hs
  cases q : isiD c d with
  | none => rw [q] at G1; exact G1.elim
  | some d' =>
    rw [q] at G1
    unfold isiD at q
    obtain ⟨t, q1, q2⟩ := Option.bind_eq_some_iff.mp q
    obtain ⟨b, q3, rfl⟩ := Option.map_eq_some_iff.mp q2
    exact ⟨v, .ty c, .type t, .type c, b, rfl, .ty c, r.tyx q1, isTab_ok q3, G1 F1 H1 σ1 rfl S1 .refl _ (.bl b)⟩
end
end Pu
namespace Pu
open PySem PySem.Spec L2
open PyProof.Rows hiding St
/-! ## texts and tuples, many times -/
def repS (z : Str) (n : Nat) : Str := ⟨(List.replicate n z.cps).foldl (· ++ ·) #[]⟩
theorem repS_len (z : Str) (n : Nat) : (repS z n).length = n * z.length := by
  have key : ∀ (n : Nat) (a : Array Nat), ((List.replicate n z.cps).foldl (· ++ ·) a).size = a.size + n * z.cps.size := by
    intro n
    induction n with
    | zero => intro a; simp
    | succ n ih => intro a; rw [List.replicate_succ, List.foldl_cons, ih]; simp [Nat.succ_mul]; omega
  show ((List.replicate n z.cps).foldl (· ++ ·) #[]).size = n * z.cps.size
  rw [key]; simp
section
variable {X : Cx} {T : Tx} {W : WX}
def rRepS : R2 := fun x y H Q => ∃ (z : Str) (k : Int), x = .str z ∧ y = .int k ∧ 2 ≤ k ∧ k ≤ 1000 ∧ 1 ≤ z.length ∧ z.length ≤ 1000 ∧ Q (.str (repS z k.toNat)) H
theorem op_repS : OpR X (binaryOp .Mult) rRepS := by
  intro pins s σ H x y v u Q I rx ry h
  obtain ⟨z, k, rfl, rfl, h1, h2, h3, h4, q⟩ := h
  obtain ⟨t, rfl⟩ := rx
  obtain ⟨t', rfl⟩ := ry
  have n1 : ¬ k < 1 := by omega
  have n2 : (k == 1 || z.length == 0) = false := by
    rw [Bool.or_eq_false_iff]
    exact ⟨beq_eq_false_iff_ne.mpr (by omega), beq_eq_false_iff_ne.mpr (by omega)⟩
  have hm : z.length * k.toNat ≤ 1000 * 1000 := Nat.mul_le_mul h4 (by omega)
  refine P.mul_str (by rw [decide_eq_false (by omega), decide_eq_false (by omega)]; rfl) (fun _ _ => ?_) (fun _ _ => ?_) ?_
  · have : (1000 : Int) ≤ (2 ^ 63 - 1) / k := Int.le_ediv_of_mul_le (by omega) (by omega)
    omega
  · unfold Builtin.Str.tooLong
    exact decide_eq_false (by rw [sizeLine_eq]; omega)
  · rw [if_neg n1, if_neg (by rw [n2]; exact Bool.false_ne_true)]
    exact ⟨by show (repS z k.toNat).length ≤ sizeLine; rw [repS_len, Nat.mul_comm, sizeLine_eq]; omega, .str (repS z k.toNat), H, I.tok _, ⟨_, rfl⟩, q⟩
def sMul : D → D → Option D
  | .str z, .int k => if (2 ≤ k ∧ k ≤ 1000) ∧ 1 ≤ z.length ∧ z.length ≤ 1000 then some (.str (repS z k.toNat)) else none
  | _, _ => none
def tMul : D → D → Option D
  | .tup ds, .int k => if (2 ≤ k ∧ k ≤ 1000) ∧ ds ≠ [] ∧ ds.length ≤ 1000 ∧ evish (List.replicate k.toNat ds).flatten = false then some (.tup (List.replicate k.toNat ds).flatten) else none
  | _, _ => none
theorem op_sMul : OpD X T (binaryOp .Mult) sMul := .pure op_repS fun T F H d1 d2 v1 v2 d Q r1 r2 e q => by
  unfold sMul at e
  split at e
  · split at e
    · rename_i c
      cases e
      have e1 := r1.str
      have e2 := r2.int
      subst e1
      subst e2
      exact ⟨_, _, rfl, rfl, c.1.1, c.1.2, c.2.1, c.2.2, q _ (.str _)⟩
    · cases e
  · cases e
theorem RepL.app {F : Addr → Prop} {H : Hp} : ∀ {ds es : List D} {xs ys : List V}, RepL T F H ds xs → RepL T F H es ys → RepL T F H (ds ++ es) (xs ++ ys)
  | _, _, _, _, .nil, r => r
  | _, _, _, _, .cons h1 h2, r => .cons h1 (RepL.app h2 r)
theorem RepL.rep {F : Addr → Prop} {H : Hp} {ds : List D} {xs : List V} (r : RepL T F H ds xs) : ∀ n : Nat, RepL T F H (List.replicate n ds).flatten (List.replicate n xs).flatten
  | 0 => .nil
  | n + 1 => by
    rw [List.replicate_succ, List.replicate_succ, List.flatten_cons, List.flatten_cons]
    exact r.app (r.rep n)
theorem op_tMul : OpD X T (binaryOp .Mult) tMul := by
  refine ⟨_, op_repT, fun g F H σ env d1 d2 v1 v2 d Q S r1 r2 e q => ?_⟩
  unfold tMul at e
  split at e
  · split at e
    · rename_i ds k c
      cases e
      obtain ⟨a, xs, rfl, fa, ha, ra⟩ := r1.tup
      have e2 := r2.int
      subst e2
      refine ⟨a, k, xs, rfl, rfl, .inl ha, fun z => c.2.1 ?_, c.1.1, c.1.2, by rw [← ra.length]; exact c.2.2.1, fun p hp => ?_⟩
      · subst z
        cases ra
        rfl
      · obtain ⟨F', S', E', r'⟩ := new_tup S hp (ra.rep k.toNat) c.2.2.2
        exact q F' _ _ S' E' r'
    · cases e
  · cases e
def aMul : D → D → Option D := fun a b => ((iMul a b).or (sMul a b)).or (tMul a b)
theorem op_aMul : OpD X T (binaryOp .Mult) aMul := (op_iMul.or op_sMul).or op_tMul
@[simp] theorem aMul_int (i j : Int) : aMul (.int i) (.int j) = if i.natAbs ≤ 18446744073709551615 ∨ j.natAbs ≤ 18446744073709551615 then some (.int (i * j)) else none := by
  show ((iMul (.int i) (.int j)).or none).or none = _
  rw [iMul_int]
  split <;> rfl
end
end Pu
namespace Pu
open PySem PySem.Spec L2
open PyProof.Rows hiding St
/-! ## a call of a parameter that holds a def -/
section
variable {X : Cx} {CX : CXT} {k i : Nat} {f : Addr} {fd : FuncData} {ps : List Str} {sp : Sp} {E : St → XK} {x : Str} {p pos : Pos} {e : Expr} {es : List Expr} {t : TA}
def tCallLS (i : Nat) (f : Addr) (sp : Sp) (E : St → XK) (t : TA) : TE := fun σ H Q => σ[i]? = some (some (.ref f)) ∧ t σ H fun vs H1 => sp vs H1 Q (E σ)
theorem pe_callLS (F : FnOk X.prog X.w X.K X.mg X.base CX k f fd ps sp) (hr : Room k X.A) (hN : X.N[i]? = some x) (hv : Vis X.env.scope x) (hk : PySem.W.keepIn X.K (.ref f) = true) (hb : Binds X.K fd ps []) (hx : ∀ σ, PassesAt CX X σ (E σ)) (ha : PA X (e :: es) t)
    (hdb : (x == ("__debug__" : Str)) = false := by decide) (hcd : (x == ("__classdict__" : Str)) = false := by decide)
    (he : starEach (e :: es) X.env = (false, eval e X.env) :: starEach es X.env := by rfl) (hpl : (backTo pos (starEach es X.env)).any (·.1) = false := by rfl) : PE X (.Call (.Name x p) (e :: es) [] pos) (tCallLS i f sp E t) := by
  refine ⟨fun pins s σ H Q I h => ?_⟩
  obtain ⟨hs, ht⟩ := h
  refine wpAny_Call_Name_kw (thn ((pe_var (pos := p) hN hv hdb hcd).run pins s σ H (fun v H1 => v = .ref f ∧ H1 = H) I ⟨.ref f, hs, rfl, rfl⟩) fun u s1 ⟨v, H1, I1, r1, q1⟩ => ?_)
  obtain ⟨rfl, rfl⟩ := q1
  cases r1
  refine PySem.W.callWith_K (h₀ := X.base) I.ok.mod.kin hk (thn (ha.run pos pins s1 σ _ _ I1 ht) fun us s2 ⟨vs, H2, I2, r, q⟩ => ⟨I2.kIn, ?_⟩) he hpl
  exact run_fnS F hr hb (hx σ) I2 r q
end
def mCallV (n i : Nat) (tab : String → Option Fn) (fa : M (List Av)) : M D := fun env => match env[i]? with
  | some (.val (.fn f)) => match tab f with
    | some fn => mCall n fn fa env
    | none => .bad
  | _ => .bad
section
variable {X : Cx} {T : Tx} {W : WX} {k : Nat} {x : Str} {p pos : Pos} {e : Expr} {es : List Expr} {n : Nat} {fa : M (List Av)}
theorem PX.callV (i : Nat) (tab : String → Option Fn) (Fk : ∀ f fn, tab f = some fn → ∃ fd ps, FnOk X.prog X.w X.K X.mg X.base (L2.CX X.prog X.w) k (T.fn f) fd ps (spF T n fn) ∧ PySem.W.keepIn X.K (.ref (T.fn f)) = true ∧ Binds X.K fd ps []) (hr : Room k X.A) (tk : Takes X W) (ha : PXA X T W (e :: es) fa)
    (hN : X.N[i]? = some x := by rfl) (hv : Vis X.env.scope x := by first | exact Or.inl rfl | exact Or.inr (Or.inl rfl) | exact Or.inr (Or.inr rfl))
    (hdb : (x == ("__debug__" : Str)) = false := by decide) (hcd : (x == ("__classdict__" : Str)) = false := by decide) (he : starEach (e :: es) X.env = (false, eval e X.env) :: starEach es X.env := by rfl) (hpl : (backTo pos (starEach es X.env)).any (·.1) = false := by rfl) :
    PX X T W (.Call (.Name x p) (e :: es) [] pos) (mCallV n i tab fa) := by
  obtain ⟨t, q, pa⟩ := ha.ex
  refine ⟨fun σ H Q => ∃ f fn, tab f = some fn ∧ tCallLS i (T.fn f) (spF T n fn) (WE W) t σ H Q, ⟨fun pins s σ H Q I h => ?_⟩, fun g F H σ env Q S G => ?_⟩
  · obtain ⟨f, fn, hf, h⟩ := h
    obtain ⟨fd, ps, F, hk, hb⟩ := Fk f fn hf
    exact (pe_callLS (i := i) (E := WE W) F hr hN hv hk hb (fun σ => passAt tk σ) q hdb hcd he hpl).run pins s σ H Q I h
  · unfold mCallV at G
    split at G
    · rename_i f e1
      split at G
      · rename_i fn hf
        obtain ⟨v, l, r⟩ := (S.sl i _ e1).cases_val
        cases r
        exact ⟨f, fn, hf, look_eq l, call_core (R := fun _ => RepR T) (fun _ _ _ _ _ d v r h => h d v r) pa S G⟩
      · exact G.elim
    · exact G.elim
end
@[simp] theorem ap_mCallV {n i : Nat} {tab : String → Option Fn} {fa : M (List Av)} {e : En} : mCallV n i tab fa e = match e[i]? with
  | some (.val (.fn f)) => match tab f with
    | some fn => mCall n fn fa e
    | none => .bad
  | _ => .bad := rfl
/-! ## isinstance(e, ValueError) -/
theorem kit_builtin {K : PySem.W.Frag} {C : Addr} {d : String} {b : Bool} (m : PySem.W.kitMeta d = true) (s : PySem.W.subIn K (.ref C) (.type d) = some b) : PySem.W.kitOne K (.ref C) (.type d) = some b := by
  have e : (Value.ref C == Value.type d) = false := by
    rw [beq_eq_false_iff_ne]
    exact fun z => by cases z
  show (if (Value.ref C == Value.type d) = true then some true else PySem.W.kitCls K (.ref C) (.type d)) = some b
  rw [e]
  show (if PySem.W.kitMeta d = true then PySem.W.subIn K (.ref C) (.type d) else none) = some b
  rw [if_pos m]
  exact s
theorem bt_ValueError : bootBuiltins "ValueError" = some (.type "ValueError") := by decide +kernel
end Pu
namespace PuH
section
variable {α β : Type} {lt : α → α → Bool} {lt' : β → β → Bool}
theorem swp_map (g : α → β) (xs : List α) (i j : Nat) : swp (xs.map g) i j = (swp xs i j).map g := by
  unfold swp
  rw [List.getElem?_map, List.getElem?_map]
  cases xs[i]? <;> cases xs[j]? <;> simp [List.map_set]
theorem hUp_map (g : α → β) : ∀ (f pos : Nat) (xs : List α), (∀ a ∈ xs, ∀ b ∈ xs, lt' (g a) (g b) = lt a b) → hUp lt' f pos (xs.map g) = (hUp lt f pos xs).map g
  | 0, _, _, _ => rfl
  | f + 1, pos, xs, h => by
    unfold hUp
    by_cases c : pos = 0
    · rw [if_pos c, if_pos c]
    · rw [if_neg c, if_neg c, List.getElem?_map, List.getElem?_map]
      cases e1 : xs[pos]? with
      | none => rfl
      | some x =>
        cases e2 : xs[(pos - 1) / 2]? with
        | none => rfl
        | some p =>
          simp only [Option.map_some]
          rw [h x (List.mem_of_getElem? e1) p (List.mem_of_getElem? e2), swp_map]
          split
          · exact hUp_map g f _ _ fun a ha b hb => h a ((swp_perm _ _ _).mem_iff.mp ha) b ((swp_perm _ _ _).mem_iff.mp hb)
          · rfl
theorem hKid_map (g : α → β) (pos : Nat) (xs : List α) (h : ∀ a ∈ xs, ∀ b ∈ xs, lt' (g a) (g b) = lt a b) : hKid lt' pos (xs.map g) = hKid lt pos xs := by
  unfold hKid
  rw [List.length_map, List.getElem?_map, List.getElem?_map]
  split
  · cases e1 : xs[2 * pos + 1]? with
    | none => rfl
    | some x =>
      cases e2 : xs[2 * pos + 2]? with
      | none => rfl
      | some p =>
        simp only [Option.map_some]
        rw [h x (List.mem_of_getElem? e1) p (List.mem_of_getElem? e2)]
  · rfl
theorem hDown_map (g : α → β) : ∀ (f pos : Nat) (xs : List α), (∀ a ∈ xs, ∀ b ∈ xs, lt' (g a) (g b) = lt a b) → hDown lt' f pos (xs.map g) = (hDown lt f pos xs).map g
  | 0, _, _, _ => rfl
  | f + 1, pos, xs, h => by
    unfold hDown
    rw [List.length_map, hKid_map g pos xs h, swp_map, hUp_map g _ _ _ h]
    split
    · exact hDown_map g f _ _ fun a ha b hb => h a ((swp_perm _ _ _).mem_iff.mp ha) b ((swp_perm _ _ _).mem_iff.mp hb)
    · rfl
theorem hPush_map (g : α → β) (xs : List α) (v : α) (h : ∀ a ∈ xs ++ [v], ∀ b ∈ xs ++ [v], lt' (g a) (g b) = lt a b) : hPush lt' (xs.map g) (g v) = (hPush lt xs v).map g := by
  unfold hPush
  rw [List.length_map, ← hUp_map g _ _ _ h, List.map_append]
  rfl
theorem hUp_perm : ∀ (f pos : Nat) (xs : List α), (hUp lt f pos xs).Perm xs
  | 0, _, _ => .refl _
  | f + 1, pos, xs => by
    unfold hUp
    split
    · exact .refl _
    · split
      · split
        · exact (hUp_perm f _ _).trans (swp_perm _ _ _)
        · exact .refl _
      · exact .refl _
theorem hDown_perm : ∀ (f pos : Nat) (xs : List α), (hDown lt f pos xs).Perm xs
  | 0, _, _ => .refl _
  | f + 1, pos, xs => by
    unfold hDown
    split
    · exact (hDown_perm f _ _).trans (swp_perm _ _ _)
    · exact hUp_perm _ _ _
theorem hPush_perm (xs : List α) (v : α) : (hPush lt xs v).Perm (xs ++ [v]) := hUp_perm _ _ _
theorem hPop_perm {xs r : List α} {v : α} (h : hPop lt xs = some (v, r)) : xs.Perm (v :: r) := by
  match xs, h with
  | [x], h => cases h; exact .refl _
  | x :: y :: r0, h =>
    have e := Option.some.inj h
    have e1 : x = v := congrArg Prod.fst e
    have e2 : hDown lt (r0.length + 4) 0 (((x :: y :: r0).dropLast).set 0 ((y :: r0).getLast (by simp))) = r := congrArg Prod.snd e
    subst e1 e2
    refine List.Perm.trans ?_ ((hDown_perm _ _ _).symm.cons x)
    have e3 : ((x :: y :: r0).dropLast).set 0 ((y :: r0).getLast (by simp)) = (y :: r0).getLast (by simp) :: (y :: r0).dropLast := by
      rw [List.dropLast_cons₂, List.set_cons_zero]
    rw [e3]
    refine List.Perm.cons x ?_
    have e4 : y :: r0 = (y :: r0).dropLast ++ [(y :: r0).getLast (by simp)] := (List.dropLast_concat_getLast (by simp)).symm
    refine (List.Perm.of_eq e4).trans ?_
    exact List.perm_append_singleton _ _
theorem hPop_map (g : α → β) (xs : List α) (h : ∀ a ∈ xs, ∀ b ∈ xs, lt' (g a) (g b) = lt a b) : hPop lt' (xs.map g) = (hPop lt xs).map fun p => (g p.1, p.2.map g) := by
  match xs, h with
  | [], _ => rfl
  | [x], _ => rfl
  | x :: y :: r, h =>
    show some _ = some _
    have e : (((x :: y :: r).map g).dropLast).set 0 (((y :: r).map g).getLast (by simp)) = (((x :: y :: r).dropLast).set 0 ((y :: r).getLast (by simp))).map g := by
      rw [List.map_set, ← List.map_dropLast, List.getLast_map]
    have e2 := hDown_map (lt := lt) (lt' := lt') g (r.length + 4) 0 (((x :: y :: r).dropLast).set 0 ((y :: r).getLast (by simp))) (fun a ha b hb => by
      have sub : ∀ z ∈ ((x :: y :: r).dropLast).set 0 ((y :: r).getLast (by simp)), z ∈ x :: y :: r := fun z hz => by
        rcases List.mem_or_eq_of_mem_set hz with q | q
        · exact (List.dropLast_sublist _).subset q
        · rw [q]; exact List.mem_cons_of_mem _ (List.getLast_mem _)
      exact h a (sub a ha) b (sub b hb))
    rw [← e] at e2
    simp only [List.length_map]
    exact congrArg (fun z => some (g x, z)) e2
end
end PuH
namespace Pu
open PySem PySem.Spec L2
open PyProof.Rows hiding St
open PuH
/-! ## what a heap holds: (t, (r, c)), or (t, (r, c), (r', c')) -/
def pyH : List Int → PyData
  | [t, r, c] => .tuple [.int t, .tuple [.int r, .int c]]
  | [t, r, c, r2, c2] => .tuple [.int t, .tuple [.int r, .int c], .tuple [.int r2, .int c2]]
  | _ => .none
def hLen (n : Nat) : Prop := n = 3 ∨ n = 5
theorem len3 {l : List Int} (h : l.length = 3) : ∃ t r c, l = [t, r, c] := by
  match l, h with
  | [t, r, c], _ => exact ⟨t, r, c, rfl⟩
theorem len5 {l : List Int} (h : l.length = 5) : ∃ t r c a b, l = [t, r, c, a, b] := by
  match l, h with
  | [t, r, c, a, b], _ => exact ⟨t, r, c, a, b, rfl⟩
theorem lt_cons (a b : Int) (l m : List Int) : decide (a :: l < b :: m) = if a = b then decide (l < m) else decide (a < b) := by
  by_cases h : a = b
  · subst h
    rw [if_pos rfl]
    have : a :: l < a :: m ↔ l < m := by
      constructor
      · intro q
        rcases List.cons_lt_cons_iff.mp q with q | ⟨_, q⟩
        · exact absurd q (by omega)
        · exact q
      · exact fun q => List.cons_lt_cons_iff.mpr (.inr ⟨rfl, q⟩)
    exact decide_eq_decide.mpr this
  · rw [if_neg h]
    have : a :: l < b :: m ↔ a < b := by
      constructor
      · intro q
        rcases List.cons_lt_cons_iff.mp q with q | ⟨q, _⟩
        · exact q
        · exact absurd q h
      · exact fun q => List.cons_lt_cons_iff.mpr (.inl q)
    exact decide_eq_decide.mpr this
theorem al_i (a b : Int) : PySem.W.alike (.int a) (.int b) = true := rfl
theorem al_ii (a b c d : Int) : PySem.W.alike (.tuple [.int a, .int b]) (.tuple [.int c, .int d]) = true := rfl
theorem eqv_i (a b : Int) : PyData.eqv (.int a) (.int b) = decide (a = b) := by
  by_cases h : a = b <;> simp [PyData.eqv, h]
theorem eqv_ii (a b c d : Int) : PyData.eqv (.tuple [.int a, .int b]) (.tuple [.int c, .int d]) = decide (a = c ∧ b = d) := by
  have := eqv_pair (a, b) (c, d)
  unfold pyP at this
  rw [this]
  simp
theorem nil_lt (l : List Int) : decide (([] : List Int) < []) = false := rfl
theorem dataLt_i (a b : Int) : PySem.W.dataLt (.int a) (.int b) = decide (a < b) := by
  simp [PySem.W.dataLt_int]
theorem pyH_lt3 (t r c t' r' c' : Int) : PySem.W.dataLt (pyH [t, r, c]) (pyH [t', r', c']) = decide ([t, r, c] < [t', r', c']) := by
  show PySem.W.dataLt (.tuple [.int t, .tuple [.int r, .int c]]) (.tuple [.int t', .tuple [.int r', .int c']]) = _
  rw [PySem.W.dataLt_pair (al_i _ _) (al_ii _ _ _ _), eqv_i, eqv_ii, PySem.W.dataLt_ii, dataLt_i, lt_cons, lt_cons, lt_cons, nil_lt []]
  by_cases h : t = t'
  · by_cases h2 : r = r'
    · by_cases h3 : c = c' <;> simp [h, h2, h3]
    · simp [h, h2]
  · simp [h]
theorem pyH_lt5 (t r c a b t' r' c' a' b' : Int) : PySem.W.dataLt (pyH [t, r, c, a, b]) (pyH [t', r', c', a', b']) = decide ([t, r, c, a, b] < [t', r', c', a', b']) := by
  show PySem.W.dataLt (.tuple [.int t, .tuple [.int r, .int c], .tuple [.int a, .int b]]) (.tuple [.int t', .tuple [.int r', .int c'], .tuple [.int a', .int b']]) = _
  rw [PySem.W.dataLt_tuple, PySem.W.dataLt_cons (al_i _ _), eqv_i]
  have e2 : PyProof.Rows.lexLt itemOrd (PySem.W.keyToksAll [.tuple [.int r, .int c], .tuple [.int a, .int b]]) (PySem.W.keyToksAll [.tuple [.int r', .int c'], .tuple [.int a', .int b']]) = if PyData.eqv (.tuple [.int r, .int c]) (.tuple [.int r', .int c']) = true then (if PyData.eqv (.tuple [.int a, .int b]) (.tuple [.int a', .int b']) = true then false else PySem.W.dataLt (.tuple [.int a, .int b]) (.tuple [.int a', .int b'])) else PySem.W.dataLt (.tuple [.int r, .int c]) (.tuple [.int r', .int c']) := by
    rw [← PySem.W.dataLt_pair (al_ii _ _ _ _) (al_ii _ _ _ _), PySem.W.dataLt_tuple]
  rw [e2, eqv_ii, eqv_ii, PySem.W.dataLt_ii, PySem.W.dataLt_ii, dataLt_i]
  simp only [lt_cons, nil_lt []]
  by_cases h : t = t'
  · by_cases h2 : r = r'
    · by_cases h3 : c = c'
      · by_cases h4 : a = a'
        · by_cases h5 : b = b' <;> simp [h, h2, h3, h4, h5]
        · simp [h, h2, h3, h4]
      · simp [h, h2, h3]
    · simp [h, h2]
  · simp [h]
theorem pyH_lt {n : Nat} (hn : hLen n) {l m : List Int} (h1 : l.length = n) (h2 : m.length = n) : PySem.W.dataLt (pyH l) (pyH m) = decide (l < m) := by
  rcases hn with rfl | rfl
  · obtain ⟨t, r, c, rfl⟩ := len3 h1
    obtain ⟨t', r', c', rfl⟩ := len3 h2
    exact pyH_lt3 ..
  · obtain ⟨t, r, c, a, b, rfl⟩ := len5 h1
    obtain ⟨t', r', c', a', b', rfl⟩ := len5 h2
    exact pyH_lt5 ..
theorem pyH_alike {n : Nat} (hn : hLen n) {l m : List Int} (h1 : l.length = n) (h2 : m.length = n) : PySem.W.alike (pyH l) (pyH m) = true := by
  rcases hn with rfl | rfl
  · obtain ⟨t, r, c, rfl⟩ := len3 h1
    obtain ⟨t', r', c', rfl⟩ := len3 h2
    rfl
  · obtain ⟨t, r, c, a, b, rfl⟩ := len5 h1
    obtain ⟨t', r', c', a', b', rfl⟩ := len5 h2
    rfl
theorem pyH_non {n : Nat} (hn : hLen n) {l : List Int} (h1 : l.length = n) : pyH l ≠ .none := by
  rcases hn with rfl | rfl
  · obtain ⟨t, r, c, rfl⟩ := len3 h1
    exact fun e => by cases e
  · obtain ⟨t, r, c, a, b, rfl⟩ := len5 h1
    exact fun e => by cases e
theorem pyH_depth {n : Nat} (hn : hLen n) {l : List Int} (h1 : l.length = n) : (pyH l).depth ≤ 4 := by
  rcases hn with rfl | rfl
  · obtain ⟨t, r, c, rfl⟩ := len3 h1
    simp [pyH, PyData.depth, PyData.depthAll]
  · obtain ⟨t, r, c, a, b, rfl⟩ := len5 h1
    simp [pyH, PyData.depth, PyData.depthAll]
theorem rd_i {h : Heap} {v : Value} {i : Int} {as : List Addr} (r : Reads h v (.int i) as) : as = [] := by cases r; rfl
theorem rd_ii {h : Heap} {v : Value} {i j : Int} {as : List Addr} (r : Reads h v (.tuple [.int i, .int j]) as) : as = [] := by
  cases r with
  | @tuple _ _ vs _ _ _ _ _ _ q =>
    generalize vs.toList = L at q
    cases q with
    | cons q1 q =>
      cases q with
      | cons q2 q =>
        cases q
        rw [rd_i q1, rd_i q2]
        rfl
theorem pyH_reads {n : Nat} (hn : hLen n) {l : List Int} (h1 : l.length = n) {h : Heap} {v : Value} {as : List Addr} (r : Reads h v (pyH l) as) : as = [] := by
  rcases hn with rfl | rfl
  · obtain ⟨t, rr, c, rfl⟩ := len3 h1
    cases r with
    | @tuple _ _ vs _ _ _ _ _ _ q =>
      generalize vs.toList = L at q
      cases q with
      | cons q1 q =>
        cases q with
        | cons q2 q =>
          cases q
          rw [rd_i q1, rd_ii q2]
          rfl
  · obtain ⟨t, rr, c, a, b, rfl⟩ := len5 h1
    cases r with
    | @tuple _ _ vs _ _ _ _ _ _ q =>
      generalize vs.toList = L at q
      cases q with
      | cons q1 q =>
        cases q with
        | cons q2 q =>
          cases q with
          | cons q3 q =>
            cases q
            rw [rd_i q1, rd_ii q2, rd_ii q3]
            rfl
/-! ## the calls -/
section
variable {X : Cx} {T : Tx} {W : WX}
def vLt (k : V → List Int) (u v : V) : Bool := decide (k u < k v)
def HpIs (K : PySem.W.Frag) (H : Hp) (k : V → List Int) (n : Nat) (u : V) : Prop := (k u).length = n ∧ Dp K H u (pyH (k u)) ∧ ∃ b, u = .ref b
theorem cmp_ok {pins : List (Addr × Obj)} {σ : L2.St} {H : Hp} {s : Shared} {n : Nat} (hn : hLen n) (I : Inv X pins σ H s) {a : Addr} {xs : List V} (ha : H a = some (.lst xs)) (k : V → List Int) (A : Around) (hu : A.units + 60 < cLine) :
    PuH.Cmp A s.heap s a (fun u => ∃ b, u = .ref b ∧ HpIs X.K H k n (.ref b)) (fun u v => vLt k (bkV u) (bkV v)) := by
  intro h tk hk x y ⟨b, ex, l1, d1, _⟩ ⟨c, ey, l2, d2, _⟩
  subst ex ey
  obtain ⟨as, r1⟩ := Dp.reads I _ _ (.ref b) d1 rfl
  obtain ⟨bs, r2⟩ := Dp.reads I _ _ (.ref c) d2 rfl
  obtain ⟨_, its, m, _, _, e⟩ := I.lstM ha
  have isl : ∀ o, s.heap.get? a = some o → o.cls = .type "list" := fun o eo => by
    rw [e] at eo
    cases eo
    rfl
  have n1 : a ∉ as := by rw [pyH_reads hn l1 r1]; simp
  have n2 : a ∉ bs := by rw [pyH_reads hn l2 r2]; simp
  have q1 := PySem.W.Reads.keepBut hk isl _ _ _ (pyH_alike hn l1 l1) r1 n1
  have q2 := PySem.W.Reads.keepBut hk isl _ _ _ (pyH_alike hn l2 l2) r2 n2
  have z := PySem.W.rcLt_alike (pyH (k (.ref b))) (pyH (k (.ref c))) A { s with heap := h, toks := tk } (.ref b) (.ref c) as bs q1 q2 (pyH_alike hn l1 l2) (pyH_non hn l1) (by
    have := pyH_depth hn l1
    omega)
  rw [pyH_lt hn l1 l2] at z
  exact z
theorem vals_refs : ∀ {xs : List V} {us : List Value}, Vals xs us → (∀ u ∈ xs, ∃ b, u = .ref b) → (∀ u ∈ us, ∃ b, u = Value.ref b ∧ V.ref b ∈ xs) ∧ us.map bkV = xs
  | _, _, .nil, _ => ⟨fun u hu => (by cases hu), rfl⟩
  | x :: xs, u :: us, .cons r1 r2, h => by
    obtain ⟨b, rfl⟩ := h x List.mem_cons_self
    cases r1
    obtain ⟨i1, i2⟩ := vals_refs r2 fun u hu => h u (List.mem_cons_of_mem _ hu)
    refine ⟨fun u hu => ?_, by rw [List.map_cons, i2]; rfl⟩
    rcases List.mem_cons.mp hu with e | q
    · exact ⟨b, e, List.mem_cons_self⟩
    · obtain ⟨c, e1, e2⟩ := i1 u q
      exact ⟨c, e1, List.mem_cons_of_mem _ e2⟩
theorem vals_of_refs : ∀ {us : List Value}, (∀ u ∈ us, ∃ b, u = Value.ref b) → Vals (us.map bkV) us := fun {us} h => by
  induction us with
  | nil => exact .nil
  | cons u us ih =>
    obtain ⟨b, rfl⟩ := h u List.mem_cons_self
    exact .cons rfl (ih fun v hv => h v (List.mem_cons_of_mem _ hv))
def rHPush (K : PySem.W.Frag) : List V → Hp → VK → Prop := fun vs H Q => ∃ (l : Addr) (xs : List V) (y : V) (k : V → List Int) (n : Nat), vs = [.ref l, y] ∧ H l = some (.lst xs) ∧ xs.length < sizeLine ∧ hLen n ∧ (∀ u ∈ xs ++ [y], HpIs K H k n u) ∧ Q .non (upd H l (.lst (hPush (vLt k) xs y)))
theorem units_in1 (A : Around) : A.in1.units ≤ A.units + 1 := by
  first
    | exact Nat.le_refl _
    | (unfold Around.in1; simp [Around.units])
    | simp [Around.in1, Around.units]
theorem cr_hpush (hu : X.A.units + 64 < cLine) : CallR X (.builtin "_heapq.heappush") (rHPush X.K) := by
  intro pins s σ H vs us Q I r h
  obtain ⟨l, xs, y, k, n, rfl, hl, hz, hn, hk, q⟩ := h
  obtain ⟨_, _, ⟨b, rfl⟩⟩ := hk y (by simp)
  obtain ⟨v, w, rfl, r1, r2⟩ := vals2 r
  cases r1
  cases r2
  obtain ⟨_, its, m, rv, hlen, e⟩ := I.lstM hl
  obtain ⟨i1, i2⟩ := vals_refs rv fun u hu => (hk u (by simp [hu])).2.2
  have C := cmp_ok hn I hl k X.A.in1 (by have := units_in1 X.A; omega)
  refine PuH.push_run (n := m) C (by rw [← hlen]; exact hz) (fun u hu => ?_) ⟨b, rfl, hk _ (by simp)⟩ e fun h' tk' n' j1 j2 => ?_
  · obtain ⟨c, e1, e2⟩ := i1 u hu
    exact ⟨c, e1, hk _ (by simp [e2])⟩
  · have em : hPush (vLt k) xs (.ref b) = (hPush (fun u v => vLt k (bkV u) (bkV v)) its (.ref b)).map bkV := by
      rw [← i2]
      exact PuH.hPush_map (lt := fun u v => vLt k (bkV u) (bkV v)) bkV its (.ref b) fun _ _ _ _ => rfl
    have pm := PuH.hPush_perm (lt := fun u v => vLt k (bkV u) (bkV v)) its (.ref b)
    have refs : ∀ u ∈ hPush (fun u v => vLt k (bkV u) (bkV v)) its (.ref b), ∃ c, u = Value.ref c := fun u hu => by
      rcases List.mem_append.mp (pm.mem_iff.mp hu) with z | z
      · obtain ⟨c, e1, _⟩ := i1 u z; exact ⟨c, e1⟩
      · exact ⟨b, List.mem_singleton.mp z⟩
    refine ⟨.non, _, I.write (x := l) (e := l) (t' := tk') (h' := h') (by rw [hl]; exact trivial) (.inl rfl) (fun b o hb hu => j2 b o hb hu) ⟨_, j1⟩ ?_, rfl, q⟩
    rw [em]
    refine ⟨?_, _, n', vals_of_refs refs, j1⟩
    rw [List.length_map, pm.length_eq, List.length_append, List.length_singleton, ← hlen]
    omega
def rHPop (K : PySem.W.Frag) : List V → Hp → VK → Prop := fun vs H Q => ∃ (l : Addr) (xs : List V) (k : V → List Int) (n : Nat) (v : V) (r : List V), vs = [.ref l] ∧ H l = some (.lst xs) ∧ hLen n ∧ (∀ u ∈ xs, HpIs K H k n u) ∧ hPop (vLt k) xs = some (v, r) ∧ Q v (upd H l (.lst r))
theorem cr_hpop (hu : X.A.units + 64 < cLine) : CallR X (.builtin "_heapq.heappop") (rHPop X.K) := by
  intro pins s σ H vs us Q I rr h
  obtain ⟨l, xs, k, n, v, r, rfl, hl, hn, hk, hp, q⟩ := h
  rw [Vals.ref1 rr]
  obtain ⟨hz, its, m, rv, hlen, e⟩ := I.lstM hl
  obtain ⟨i1, i2⟩ := vals_refs rv fun u hu => (hk u hu).2.2
  have C := cmp_ok hn I hl k X.A.in1 (by have := units_in1 X.A; omega)
  have em := PuH.hPop_map (lt := fun u v => vLt k (bkV u) (bkV v)) (lt' := vLt k) bkV its fun _ _ _ _ => rfl
  rw [i2, hp] at em
  obtain ⟨⟨v0, r0⟩, e0, e1⟩ := Option.map_eq_some_iff.mp em.symm
  have ev : bkV v0 = v := congrArg Prod.fst e1
  have er : r0.map bkV = r := congrArg Prod.snd e1
  have pm := PuH.hPop_perm e0
  have refs : ∀ u ∈ v0 :: r0, ∃ c, u = Value.ref c := fun u hu => by
    obtain ⟨c, e1, _⟩ := i1 u (pm.mem_iff.mpr hu); exact ⟨c, e1⟩
  refine PuH.pop_run (n := m) C (by rw [← hlen]; exact hz) (fun u hu => ?_) e e0 fun h' tk' n' j1 j2 => ?_
  · obtain ⟨c, e1, e2⟩ := i1 u hu
    exact ⟨c, e1, hk _ e2⟩
  · obtain ⟨c, rfl⟩ := refs v0 List.mem_cons_self
    subst ev
    refine ⟨.ref c, _, I.write (x := l) (e := l) (t' := tk') (h' := h') (by rw [hl]; exact trivial) (.inl rfl) (fun b o hb hu => j2 b o hb hu) ⟨_, j1⟩ ?_, rfl, q⟩
    rw [← er]
    refine ⟨?_, _, n', vals_of_refs fun u hu => refs u (List.mem_cons_of_mem _ hu), j1⟩
    have := pm.length_eq
    rw [List.length_cons] at this
    rw [List.length_map]
    omega
end
end Pu
namespace Pu
open PySem PySem.Spec L2
open PyProof.Rows hiding St
open PuH
/-! ## heaps as data -/
def hk : D → Option (List Int)
  | .tup [.int t, .tup [.int r, .int c]] => some [t, r, c]
  | .tup [.int t, .tup [.int r, .int c], .tup [.int a, .int b]] => some [t, r, c, a, b]
  | _ => none
def ltK (a b : D) : Bool := decide ((hk a).getD [] < (hk b).getD [])
def okN (n : Nat) (ds : List D) : Bool := ds.all fun d => (hk d).map List.length == some n
def okH (ds : List D) : Bool := okN 3 ds || okN 5 ds
def hPushD (ds : List D) (d : D) : Option (List D) := if okH (ds ++ [d]) = true ∧ ds.length < big then some (hPush ltK ds d) else none
def hPopD (ds : List D) : Option (D × List D) := if okH ds = true then hPop ltK ds else none
/-- the numbers of what stands at a value -/
def kH (H : Hp) : V → List Int
  | .ref a => match H a with
    | some (.tup [.int t, .ref b]) => match H b with
      | some (.tup [.int r, .int c]) => [t, r, c]
      | _ => []
    | some (.tup [.int t, .ref b, .ref c]) => match H b, H c with
      | some (.tup [.int r, .int s]), some (.tup [.int p, .int q]) => [t, r, s, p, q]
      | _, _ => []
    | _ => []
  | _ => []
theorem hk_py {d : D} {l : List Int} (h : hk d = some l) : toPy d = some (pyH l) := by
  unfold hk at h
  split at h
  · cases h; rfl
  · cases h; rfl
  · cases h
section
variable {X : Cx} {T : Tx} {W : WX} {F : Addr → Prop} {H : Hp}
theorem rep_hk {d : D} {v : V} {l : List Int} (r : Rep T F H d v) (h : hk d = some l) : kH H v = l ∧ ∃ b, v = .ref b := by
  unfold hk at h
  split at h
  · cases h
    obtain ⟨a, xs, rfl, fa, ha, ra⟩ := r.rb.tup
    cases ra with
    | cons r1 r2 =>
      cases r1
      cases r2 with
      | cons r2 r3 =>
        cases r3
        obtain ⟨b, ys, rfl, fb, hb, rb⟩ := r2.rb.tup
        cases rb with
        | cons s1 s2 =>
          cases s1
          cases s2 with
          | cons s2 s3 =>
            cases s2
            cases s3
            exact ⟨by simp only [kH, fa rfl, fb rfl], a, rfl⟩
  · cases h
    obtain ⟨a, xs, rfl, fa, ha, ra⟩ := r.rb.tup
    cases ra with
    | cons r1 r2 =>
      cases r1
      cases r2 with
      | cons r2 r3 =>
        cases r3 with
        | cons r3 r4 =>
          cases r4
          obtain ⟨b, ys, rfl, fb, hb, rb⟩ := r2.rb.tup
          obtain ⟨c, zs, rfl, fc, hc, rc⟩ := r3.rb.tup
          cases rb with
          | cons s1 s2 =>
            cases s1
            cases s2 with
            | cons s2 s3 =>
              cases s2
              cases s3
              cases rc with
              | cons u1 u2 =>
                cases u1
                cases u2 with
                | cons u2 u3 =>
                  cases u2
                  cases u3
                  exact ⟨by simp only [kH, fa rfl, fb rfl, fc rfl], a, rfl⟩
  · cases h
theorem repl_zip : ∀ {ds : List D} {xs : List V}, RepL T F H ds xs → ∃ zs : List (D × V), zs.map (·.1) = ds ∧ zs.map (·.2) = xs ∧ ∀ z ∈ zs, Rep T F H z.1 z.2
  | _, _, .nil => ⟨[], rfl, rfl, fun z h => by cases h⟩
  | d :: ds, x :: xs, .cons r1 r2 => by
    obtain ⟨zs, h1, h2, h3⟩ := repl_zip r2
    refine ⟨(d, x) :: zs, by rw [List.map_cons, h1], by rw [List.map_cons, h2], fun z hz => ?_⟩
    rcases List.mem_cons.mp hz with e | q
    · rw [e]; exact r1
    · exact h3 z q
theorem repl_of_zip : ∀ {zs : List (D × V)}, (∀ z ∈ zs, Rep T F H z.1 z.2) → RepL T F H (zs.map (·.1)) (zs.map (·.2))
  | [], _ => .nil
  | z :: zs, h => .cons (h z List.mem_cons_self) (repl_of_zip fun y hy => h y (List.mem_cons_of_mem _ hy))
theorem okN_mem {n : Nat} {ds : List D} (h : okN n ds = true) {d : D} (hd : d ∈ ds) : ∃ l, hk d = some l ∧ l.length = n := by
  have := List.all_eq_true.mp h d hd
  cases e : hk d with
  | none => rw [e] at this; simp at this
  | some l =>
    rw [e] at this
    exact ⟨l, rfl, by simpa using this⟩
theorem okH_n {ds : List D} (h : okH ds = true) : ∃ n, hLen n ∧ okN n ds = true := by
  unfold okH at h
  rcases Bool.or_eq_true_iff.mp h with h | h
  · exact ⟨3, .inl rfl, h⟩
  · exact ⟨5, .inr rfl, h⟩
theorem rep_is {K : PySem.W.Frag} {n : Nat} {d : D} {v : V} (r : Rep T F H d v) (h : ∃ l, hk d = some l ∧ l.length = n) : HpIs K H (kH H) n v ∧ (hk d).getD [] = kH H v := by
  obtain ⟨l, h1, h2⟩ := h
  obtain ⟨e, b, hb⟩ := rep_hk r h1
  refine ⟨⟨by rw [e]; exact h2, by rw [e]; exact r.dp (hk_py h1), b, hb⟩, by rw [h1, e]; rfl⟩
/-- heappush(x, e) -/
def eHPush (i : Nat) (fe : M D) : M D := fun env => match rootD env i with
  | some (.lst _, _) => (fe env).bind fun d e1 => match rootD e1 i with
    | some (.lst ds, mk) => match hPushD ds d with
      | some ds' => .ok .non (e1.set i (mk (.lst ds')))
      | none => .bad
    | _ => .bad
  | _ => .bad
theorem PX.hpush (i : Nat) {x : Str} {e : Expr} {fe : M D} {p p2 pos : Pos} (hu : X.A.units + 64 < cLine) (he : PX X T W e fe) (hm : X.mg "heappush" = some (.builtin "_heapq.heappush")) (hg : Gl X "heappush" := by rfl) (hN : X.N[i]? = some x := by rfl) (hv : Vis X.env.scope x := by first | exact Or.inl rfl | exact Or.inr (Or.inl rfl) | exact Or.inr (Or.inr rfl))
    (hd : (x == ("__debug__" : Str)) = false := by decide) (hcd : (x == ("__classdict__" : Str)) = false := by decide)
    (hs : starEach ((Expr.Name x p2) :: [e]) X.env = (false, eval (.Name x p2) X.env) :: starEach [e] X.env := by rfl) (hs2 : starEach (e :: []) X.env = (false, eval e X.env) :: starEach [] X.env := by rfl) (hpl : (backTo pos (starEach [e] X.env)).any (·.1) = false := by rfl) :
    PX X T W (.Call (.Name "heappush" p) [.Name x p2, e] [] pos) (eHPush i fe) := by
  obtain ⟨te, qe, pe⟩ := he.ex
  refine ⟨_, pe_callBfun (cr_hpush hu) hg hm (pa_cons (pe_var hN hv hd hcd) (pa_cons qe pa_nil hs2) hs) (by decide) hs hpl, fun g F H σ env Q S G => ?_⟩
  unfold eHPush at G
  split at G
  · rename_i ds0 mk0 e0
    obtain ⟨a, R⟩ := S.atRoot e0
    obtain ⟨xs0, hx0, _⟩ := R.con.getL
    refine ⟨.ref a, look_eq R.lk, ?_⟩
    refine pe g F H σ env _ S (Goal.bind (fun _ h => h) G fun d e1 F1 H1 σ1 _ hs S1 E1 G1 v r => ?_)
    subst hs
    split at G1
    · rename_i ds mk e2
      obtain ⟨b, R1⟩ := S1.atRoot e2
      have eb := R1.lk
      rw [R.lk] at eb
      cases eb
      obtain ⟨xs, hx, rx⟩ := R1.con.getL
      split at G1
      · rename_i ds' hp
        unfold hPushD at hp
        split at hp
        · rename_i cc
          cases hp
          obtain ⟨n, hn, hok⟩ := okH_n cc.1
          obtain ⟨zs, z1, z2, z3⟩ := repl_zip rx
          have mem : ∀ z ∈ zs ++ [(d, v)], Rep T F1 H1 z.1 z.2 ∧ z.1 ∈ ds ++ [d] := fun z hz => by
            rcases List.mem_append.mp hz with q | q
            · exact ⟨z3 z q, by rw [← z1]; exact List.mem_append.mpr (.inl (List.mem_map.mpr ⟨z, q, rfl⟩))⟩
            · rw [List.mem_singleton.mp q]; exact ⟨r, by simp⟩
          have isz := fun z hz => rep_is (K := X.K) (mem z hz).1 (okN_mem hok (mem z hz).2)
          have m1 := hPush_map (lt := fun a b : D × V => ltK a.1 b.1) (lt' := ltK) (·.1) zs (d, v) fun _ _ _ _ => rfl
          have m2 := hPush_map (lt := fun a b : D × V => ltK a.1 b.1) (lt' := vLt (kH H1)) (·.2) zs (d, v) fun a ha b hb => by
            show decide (kH H1 a.2 < kH H1 b.2) = decide ((hk a.1).getD [] < (hk b.1).getD [])
            rw [(isz a ha).2, (isz b hb).2]
          rw [z1] at m1
          rw [z2] at m2
          have rel : RepL T F1 H1 (hPush ltK ds d) (hPush (vLt (kH H1)) xs v) := by
            rw [m1, m2]
            exact repl_of_zip fun z hz => (mem z ((hPush_perm _ _).mem_iff.mp hz)).1
          refine ⟨a, xs, v, kH H1, n, rfl, hx, Nat.lt_of_lt_of_le (by rw [← rx.length]; exact cc.2) big_line, hn, fun u hu => ?_, ?_⟩
          · rw [← z2] at hu
            have : u ∈ (zs ++ [(d, v)]).map (·.2) := by rw [List.map_append]; exact hu
            obtain ⟨z, hz, rfl⟩ := List.mem_map.mp this
            exact (isz z hz).1
          · have kp : Kp F1 H1 (upd H1 a (.lst (hPush (vLt (kH H1)) xs v))) := .upd R1.nf R1.con.nt
            obtain ⟨S2, E2⟩ := S1.mut e2 R1 (.lst (hPush (vLt (kH H1)) xs v)) (.lst upd_same (rel.mono (fun _ h => h) kp))
            exact G1 F1 _ σ1 rfl S2 E2 _ .non
        · cases hp
      · exact G1.elim
    · exact G1.elim
  · exact G.elim
/-- heappop(x) -/
def eHPop (i : Nat) : M D := fun env => match rootD env i with
  | some (.lst ds, mk) => match hPopD ds with
    | some (d, r) => .ok d (env.set i (mk (.lst r)))
    | none => .bad
  | _ => .bad
theorem PX.hpop (i : Nat) {x : Str} {p p2 pos : Pos} (hu : X.A.units + 64 < cLine) (hm : X.mg "heappop" = some (.builtin "_heapq.heappop")) (hg : Gl X "heappop" := by rfl) (hN : X.N[i]? = some x := by rfl) (hv : Vis X.env.scope x := by first | exact Or.inl rfl | exact Or.inr (Or.inl rfl) | exact Or.inr (Or.inr rfl))
    (hd : (x == ("__debug__" : Str)) = false := by decide) (hcd : (x == ("__classdict__" : Str)) = false := by decide)
    (hs : starEach ((Expr.Name x p2) :: []) X.env = (false, eval (.Name x p2) X.env) :: starEach [] X.env := by rfl) (hpl : (backTo pos (starEach [] X.env)).any (·.1) = false := by rfl) :
    PX X T W (.Call (.Name "heappop" p) [.Name x p2] [] pos) (eHPop i) := by
  refine ⟨_, pe_callBfun (cr_hpop hu) hg hm (pa_cons (pe_var hN hv hd hcd) pa_nil hs) (by decide) hs hpl, fun g F H σ env Q S G => ?_⟩
  unfold eHPop at G
  split at G
  · rename_i ds mk e0
    obtain ⟨a, R⟩ := S.atRoot e0
    obtain ⟨xs, hx, rx⟩ := R.con.getL
    refine ⟨.ref a, look_eq R.lk, ?_⟩
    split at G
    · rename_i d r hp
      unfold hPopD at hp
      split at hp
      · rename_i cc
        obtain ⟨n, hn, hok⟩ := okH_n cc
        obtain ⟨zs, z1, z2, z3⟩ := repl_zip rx
        have isz := fun z (hz : z ∈ zs) => rep_is (K := X.K) (z3 z hz) (okN_mem hok (by rw [← z1]; exact List.mem_map.mpr ⟨z, hz, rfl⟩))
        have m1 := hPop_map (lt := fun a b : D × V => ltK a.1 b.1) (lt' := ltK) (·.1) zs fun _ _ _ _ => rfl
        have m2 := hPop_map (lt := fun a b : D × V => ltK a.1 b.1) (lt' := vLt (kH H)) (·.2) zs fun a ha b hb => by
          show decide (kH H a.2 < kH H b.2) = decide ((hk a.1).getD [] < (hk b.1).getD [])
          rw [(isz a ha).2, (isz b hb).2]
        rw [z1, hp] at m1
        obtain ⟨⟨z0, zr⟩, q0, q1⟩ := Option.map_eq_some_iff.mp m1.symm
        have ed : z0.1 = d := congrArg Prod.fst q1
        have er : zr.map (·.1) = r := congrArg Prod.snd q1
        rw [z2, q0] at m2
        have pm := hPop_perm q0
        have mem : ∀ z ∈ z0 :: zr, Rep T F H z.1 z.2 := fun z hz => z3 z (pm.mem_iff.mpr hz)
        refine ⟨a, xs, kH H, n, z0.2, zr.map (fun z : D × V => z.2), rfl, hx, hn, fun u hu => ?_, m2.trans rfl, ?_⟩
        · rw [← z2] at hu
          obtain ⟨z, hz, rfl⟩ := List.mem_map.mp hu
          exact (isz z hz).1
        · have kp : Kp F H (upd H a (.lst (zr.map (·.2)))) := .upd R.nf R.con.nt
          have rel := repl_of_zip fun z hz => mem z (List.mem_cons_of_mem _ hz)
          rw [er] at rel
          obtain ⟨S2, E2⟩ := S.mut e0 R (.lst (zr.map (·.2))) (.lst upd_same (rel.mono (fun _ h => h) kp))
          have rv := (mem z0 List.mem_cons_self).mono E2.f E2.k
          rw [ed] at rv
          exact G F _ σ rfl S2 E2 _ rv
      · cases hp
    · exact G.elim
  · exact G.elim
@[simp] theorem ap_eHPush {i : Nat} {fe : M D} {e : En} : eHPush i fe e = match rootD e i with
  | some (.lst _, _) => (fe e).bind fun d e1 => match rootD e1 i with
    | some (.lst ds, mk) => match hPushD ds d with
      | some ds' => .ok .non (e1.set i (mk (.lst ds')))
      | none => .bad
    | _ => .bad
  | _ => .bad := rfl
@[simp] theorem ap_eHPop {i : Nat} {e : En} : eHPop i e = match rootD e i with
  | some (.lst ds, mk) => match hPopD ds with
    | some (d, r) => .ok d (e.set i (mk (.lst r)))
    | none => .bad
  | _ => .bad := rfl
end
end Pu
namespace L2
open PySem PySem.Spec PyProof.Rows
section
variable {X : Cx}
/-- {k: v}, the key a tuple -/
def tDct1 (tk tv : TE) : TE := fun σ H Q => ∀ p, H p = none → tk σ (upd H p (.dT [])) fun x H1 => tv σ H1 fun y H2 => H2 p = some (.dT []) ∧ ∃ (b : Addr) (k : List Key), x = .ref b ∧ H2 b = some (.tup (k.map kV)) ∧ Q (.ref p) (upd H2 p (.dT [(k, y)]))
theorem pe_dct1 {k v : Expr} {pos : Pos} {tk tv : TE} (hu : X.A.units + 1 < cLine) (hk : PE X k tk) (hv : PE X v tv) : PE X (.Dict [some k] [v] pos) (tDct1 tk tv) := by
  refine ⟨fun pins s σ H Q I q => ?_⟩
  have hn := I.hok.fresh (Nat.le_refl s.heap.objs.size)
  have I1 := I.laid (a := s.heap.objs.size) (o := .dT []) (h' := s.heap.push { cls := .type "dict", data := .dict #[] }) (t' := s.toks) (fun _ _ q => Heap.get?_push_of_some _ q) (Nat.le_refl _) (dt_empty s.heap I.big)
  have hshape := zip_pairTrees [some k] [v] X.env pos rfl rfl
  have hlen := pairTrees_length [some k] [v] X.env pos rfl rfl
  rw [arm_eval_Dict, hshape, dictDisplay_pairs _ (fun z => by rw [z] at hlen; cases hlen) (by rw [hlen]; show 1 < 17; omega)]
  refine wpAny_bind (wpAny_standAt (wpAny_bind ?_))
  unfold subDict
  refine wpAny_bind (wpAny_alloc ?_)
  refine wpAny_bind (wpAny_holding ?_)
  rw [if_pos (by rw [hlen]; show 1 ≤ 15; omega)]
  refine wpAny_bind (pairTrees_cons_walk (thn (hk.run pins _ σ _ _ I1 (q _ hn)) fun u s1 ⟨x, H1, I2, rx, q1⟩ => thn (hv.run pins s1 σ H1 _ I2 q1) fun w2 s2 ⟨y, H2, I3, ry, e, b, kk, ex, eb, q2⟩ => pairTrees_nil_walk ?_))
  subst ex
  cases (show u = Value.ref b from rx)
  obtain ⟨z, hd, xs, rel, dd⟩ := dt_of I3.hok e
  cases rel
  refine wpAny_holding ?_
  refine wpAny_bind ?_
  rw [List.forIn_cons]
  refine wpAny_bind (wpAny_bind (wpAny_dictSet_heap (hsz := by rw [sizeLine_eq]; simp) (show (tupleKind (mixKind X.prog X.w)).room X.A from by exact Nat.lt_of_succ_lt hu) (key_of I3.hok eb) dd fun h' dd' hs => wpAny_pure ?_))
  dsimp only
  rw [List.forIn_nil]
  refine wpAny_pure (wpAny_pure (wpAny_pure (wpAny_pure ?_)))
  obtain ⟨o, es, ep, hq, h2, h3, h4, _, h5⟩ := dd'
  refine ⟨.ref s.heap.objs.size, _, d_write (ob := .dT [(kk, y)]) (t' := s2.toks + (tupleKind (mixKind X.prog X.w)).draws kk) I3 (by rw [e]; exact True.intro) hs ⟨o, hq⟩ ⟨by rw [sizeLine_eq]; simp, hd, _, (KT.put (kvs := []) .nil kk eb ry).keeps fun c ys ec => ?_, o, es, ep, hq, h2, h3, h4, h5⟩, rfl, q2⟩
  rw [upd_ne (ne_of ec e (fun z => nomatch z))]
  exact ec
end
end L2
namespace PuH
open PySem PySem.Spec PyProof.Rows
section
variable {P : Program} {w : World} {K : Type} [DecidableEq K] {kn : HeapKind P w K} {A : Around} {E : Value → Shared → Prop} {s : Shared}
theorem eq_of_tuple {b : Addr} {M : Model} {Q : Bool → Shared → Prop} (ht : s.TypeIs (.ref b) "tuple") (h : Q false s) : wpAny M A (Builtin.Dict.quietEq (.ref b)) Q E s := by
  unfold Builtin.Dict.quietEq
  dsimp only
  refine wpAny_bind (wpAny_specialOf ht F.slot_tuple_eq.lookup (wpAny_pure ?_))
  exact h
/-- dict(d) of a dict with one key, a tuple -/
theorem dict_one {o : Addr} {x : K × Addr × Value} {Q : Value → Shared → Prop} (hoS : (o == sysModules) = false) (ho : s.heap.DictOfH kn o [x]) (ht : s.TypeIs (.ref x.2.1) "tuple")
    (hQ : ∀ (h' : Heap) (o' : Obj) (ep' : Nat), h'.get? s.heap.objs.size = some o' → o'.ExactDict → o'.data = .dict #[entryOfKey kn x] ep' → (∀ b u, s.heap.get? b = some u → h'.get? b = some u) → Q (.ref s.heap.objs.size) { s with heap := h' }) :
    wpAny (model P w) A (call (.type "dict") [.ref o]) Q E s := by
  refine callType_codes (Q₁ := fun z u => z = .ref s.heap.objs.size ∧ u = { s with heap := s.heap.push { cls := .type "dict", data := .dict #[] } }) F.kt_called_dict (F.kt_typeCall_dict_1 _) F.entry_dict_init (kt_code_dict_new _ ⟨rfl, rfl⟩) ?_
  rintro z u ⟨rfl, rfl⟩
  have nw : (s.heap.push { cls := .type "dict", data := .dict #[] }).DictOfH kn s.heap.objs.size [] := Heap.DictOfH.new s.heap
  obtain ⟨ob, es, ep, hg, hx, hdt, he, his, hn⟩ := ho
  have hg' : (s.heap.push { cls := .type "dict", data := .dict #[] }).get? o = some ob := Heap.get?_push_of_some _ hg
  have ht' : Shared.TypeIs { s with heap := s.heap.push { cls := .type "dict", data := .dict #[] } } (.ref o) "dict" := ⟨ob, hg', hx.1⟩
  have ne : s.heap.objs.size ≠ o := Ne.symm (Nat.ne_of_lt (Heap.lt_size hg))
  refine ⟨nw.typeIs, F.args_dict_init_2 _ _, ?_⟩
  unfold Builtin.«dict.__init__»
  refine wpAny_bind ?_
  unfold Builtin.Dict.selfAndRest
  refine wpAny_bind (wpAny_notOrdered_dict nw.typeIs ?_)
  refine wpAny_pure ?_
  show wpAny _ _ (Builtin.Dict.updateFrom _ s.heap.objs.size (.ref o) [] .none) _ _ _
  unfold Builtin.Dict.updateFrom
  refine wpAny_bind (wpAny_typeOf ht' ?_)
  rw [if_neg (by decide)]
  refine wpAny_bind ?_
  unfold Builtin.Dict.merge
  refine wpAny_bind ?_
  unfold Builtin.Dict.readDirectly
  refine wpAny_bind (wpAny_isInstance ht' isSubtype_dict_dict ?_)
  simp only [Bool.not_true, Bool.false_eq_true, if_false]
  refine wpAny_bind (wpAny_specialOf ht' F.slot_dict_iter.lookup (wpAny_pure ?_))
  simp only [beq_self_eq_true, if_true]
  refine wpAny_bind (wpAny_pure ?_)
  unfold Builtin.Dict.mergeDict
  rw [if_neg (by simpa using ne)]
  unfold Builtin.Dict.showsAll
  rw [if_neg (by rw [hoS]; exact Bool.false_ne_true)]
  refine wpAny_bind (wpAny_pure ?_)
  refine wpAny_bind (wpAny_dictEntries hg' hdt ?_)
  have el : es.toList = [entryOfKey kn x] := he
  have ea : es = #[entryOfKey kn x] := by
    apply Array.ext'
    rw [el]
  subst ea
  have ef : (decide (#[entryOfKey kn x].size ≤ 8) && #[entryOfKey kn x].all fun e => (keyPart e.key).isSome) = false := by
    have z : (keyPart (entryOfKey kn x).key).isSome = false := rfl
    simp [z]
  dsimp only
  rw [ef, if_pos (show (!false) = true from rfl)]
  obtain ⟨o2, es2, ep2, hg2, hx2, hd2, he2, _, _⟩ := nw
  have es0 : es2 = #[] := by
    apply Array.ext'
    rw [he2]
    rfl
  subst es0
  refine wpAny_bind (wpAny_dictEntries hg2 hd2 ?_)
  rw [if_pos (show (#[] : Array DictEntry).isEmpty = true from rfl)]
  refine wpAny_bind ?_
  unfold Builtin.Dict.entriesForEmpty
  refine wpAny_bind (wpAny_dictEntries hg' hdt ?_)
  refine wpAny_bind ?_
  rw [← Array.forIn_toList]
  show wpAny _ _ (forIn [entryOfKey kn x] _ _) _ _ _
  rw [List.forIn_cons]
  have htx : Shared.TypeIs { s with heap := s.heap.push { cls := .type "dict", data := .dict #[] } } (.ref x.2.1) "tuple" := by
    obtain ⟨q, hq, hc⟩ := ht
    exact ⟨q, Heap.get?_push_of_some _ hq, hc⟩
  refine wpAny_bind (wpAny_bind (eq_of_tuple htx ?_))
  rw [if_pos (show (!false) = true from rfl)]
  rw [if_neg (by
    have z := Array.size_filter_le (p := fun e : DictEntry => e.hash == (entryOfKey kn x).hash) (xs := #[entryOfKey kn x])
    have z1 : (#[entryOfKey kn x]).size = 1 := rfl
    omega)]
  refine wpAny_pure ?_
  dsimp only
  rw [List.forIn_nil]
  refine wpAny_pure (wpAny_pure ?_)
  rw [if_pos (show (!(#[entryOfKey kn x] : Array DictEntry).isEmpty) = true from rfl)]
  refine wpAny_bind (wpAny_updateDictKeysTo hg2 hd2 ?_ (by rw [sizeLine_eq]; show 1 ≤ _; omega))
  refine wpAny_pure ?_
  show wpAny _ _ (Builtin.Dict.addKeywords s.heap.objs.size [] >>= _) _ _ _
  refine wpAny_bind (wpAny_pure (wpAny_pure ⟨rfl, hQ _ _ (ep2 + 1) (Heap.get?_update_self _ hg2 (Obj.isFreed_of_dict (Obj.data_mapDictKeys hd2 _))) (hx2.mapDictKeys _) (Obj.data_mapDictKeys hd2 _) ?_⟩))
  intro b u e
  exact (Heap.get?_update_other _ _ (Nat.ne_of_gt (Heap.lt_size e))).trans (Heap.get?_push_of_some _ e)
end
end PuH
namespace L2
open PySem PySem.Spec PyProof.Rows
section
variable {X : Cx}
def rDict1 : List V → Hp → VK → Prop := fun xs H Q => ∃ (a : Addr) (k : List Key) (v : V), xs = [.ref a] ∧ Rd H a (.dT [(k, v)]) ∧ ∀ p, H p = none → Q (.ref p) (upd H p (.dT [(k, v)]))
theorem cr_dict1 : CallR X (.type "dict") rDict1 := by
  intro pins s σ H xs us Q I r h
  obtain ⟨a, k, v, rfl, ha, q⟩ := h
  rw [Vals.ref1 r]
  obtain ⟨z, hs, ks, pr, dd⟩ := dt_rd I.hok ha
  cases pr with
  | @cons p x ps xs h1 h2 =>
    cases h2
    obtain ⟨e1, e2, e3⟩ := h1
    obtain ⟨kx, b, vx⟩ := x
    cases e1
    have ht : s.TypeIs (.ref b) "tuple" := by
      obtain ⟨_, its, _, o, ho, hc, _⟩ := I.hok b _ e2
      exact ⟨_, ho, hc⟩
    have hn := I.hok.fresh (Nat.le_refl s.heap.objs.size)
    refine PuH.dict_one hs dd ht fun h' o' ep' g1 g2 g3 kp => ?_
    refine ⟨.ref s.heap.objs.size, _, I.laid (t' := s.toks) (o := .dT [(k, v)]) kp (Nat.le_refl _) ⟨z, beq_eq_false_iff_ne.mpr (Nat.ne_of_gt I.big), [(k, b, vx)], .cons ⟨rfl, ?_, e3⟩ .nil, o', _, ep', g1, g2, g3, rfl, ?_⟩, rfl, q _ hn⟩
    · rw [upd_ne (ne_of_none e2 hn)]
      exact e2
    · simp
end
end L2
namespace Pu
open PySem PySem.Spec L2
open PyProof.Rows hiding St
/-! ## dicts whose keys are tuples -/
def kD : Key → D
  | .inl i => .int i
  | .inr x => .str x
def keyD (k : List Key) : D := .tup (k.map kD)
section
variable {X : Cx} {T : Tx} {W : WX} {F : Addr → Prop} {H : Hp}
theorem rep_kD (k : Key) : Rep T F H (kD k) (kV k) := by
  cases k with
  | inl i => exact .int i
  | inr x => exact .str x
theorem repl_kD : ∀ k : List Key, RepL T F H (k.map kD) (k.map kV)
  | [] => .nil
  | k :: ks => .cons (rep_kD k) (repl_kD ks)
theorem evish_kD : ∀ k : List Key, evish (k.map kD) = false
  | [] => rfl
  | k :: ks => by
    have : evD (kD k) = false := by cases k <;> rfl
    unfold evish
    rw [List.map_cons, List.all_cons, this]
    simp
theorem rep_keyD {k : List Key} {b : Addr} (h : H b = some (.tup (k.map kV))) : Rep T F H (keyD k) (.ref b) := .tup (evish_kD k) h (repl_kD k)
theorem isKeys_rep : ∀ {kvs : List (List Key × D)} {xs : List (List Key × V)} {bs : List Addr}, RepT T F H kvs xs → IsKeys H xs bs → RepL T F H (kvs.map fun p => keyD p.1) (bs.map V.ref)
  | _, _, _, .nil, h => by cases h; exact .nil
  | _, _, _, .cons r1 r2, h => by
    cases h with
    | cons h1 h2 => exact .cons (rep_keyD h1) (isKeys_rep r2 h2)
theorem isKeys_keep {H' : Hp} (k : ∀ b xs, H b = some (.tup xs) → H' b = some (.tup xs)) : ∀ {xs : List (List Key × V)} {bs : List Addr}, IsKeys H xs bs → IsKeys H' xs bs
  | _, _, .nil => .nil
  | _, _, .cons h1 h2 => .cons (k _ _ h1) (isKeys_keep k h2)
/-- list(..) of a list, a tuple, a dict -/
def listKD : D → Option D
  | .dct kvs => some (.lst (kvs.map fun p => keyD p.1))
  | _ => none
theorem call_listKD (hc : X.calm = true) : CallO X T (.type "list") listKD := by
  refine ⟨_, call_list_dT hc, fun g F H σ env d1 v1 d Q S r e q => ?_⟩
  unfold listKD at e
  split at e
  · cases e
    obtain ⟨a, xs, rfl, ha, ra⟩ := r.dct
    refine ⟨a, xs, rfl, ha, fun p bs hp hk => ?_⟩
    obtain ⟨S', E', r'⟩ := own_lst S hp (isKeys_rep ra hk)
    exact q F _ _ S' E' r'
  · cases e
def listA : D → Option D := fun a => (listD a).or (listKD a)
theorem call_listA (hc : X.calm = true) : CallO X T (.type "list") listA := call_listD.or (call_listKD hc)
@[simp] theorem listA_lst (ds : List D) : listA (.lst ds) = some (.lst ds) := rfl
@[simp] theorem listA_tup (ds : List D) : listA (.tup ds) = some (.lst ds) := rfl
@[simp] theorem listA_dct (kvs : List (List Key × D)) : listA (.dct kvs) = some (.lst (kvs.map fun p => keyD p.1)) := rfl
/-- dict(..) of a dict with one key -/
def dictD : D → Option D
  | .dct [p] => some (.dct [p])
  | _ => none
theorem call_dictD1 : CallO X T (.type "dict") dictD := by
  refine ⟨_, cr_dict1, fun g F H σ env d1 v1 d Q S r e q => ?_⟩
  unfold dictD at e
  split at e
  · rename_i p
    cases e
    obtain ⟨a, xs, rfl, ha, ra⟩ := r.dct
    obtain ⟨k, d0⟩ := p
    cases ra with
    | @cons _ _ _ x xs r1 r2 =>
      cases r2
      refine ⟨a, k, x, rfl, ha, fun p hp => ?_⟩
      obtain ⟨S', E', r'⟩ := own_dct S hp (.cons (k := k) r1 .nil)
      exact q F _ _ S' E' r'
  · cases e
/-- {k: v} -/
def eDct1 (fk fv : M D) : M D := fun env => (fk env).bind fun d1 e1 => (fv e1).bind fun d2 e2 => Out.of ((keyOf d1).map fun k => .dct [(k, d2)]) e2
theorem PXO.dct1 {k v : Expr} {fk fv : M D} {pos : Pos} (hu : X.A.units + 64 < cLine) (hk : PX X T W k fk) (hv : PX X T W v fv) : PXO X T W (.Dict [some k] [v] pos) (eDct1 fk fv) := by
  obtain ⟨tk, qk, pk⟩ := hk.ex
  obtain ⟨tv, qv, pv⟩ := hv.ex
  refine ⟨_, pe_dct1 (by omega) qk qv, fun g F H σ env Q S G p hp => ?_⟩
  obtain ⟨n1, n2, n3, n4, n5⟩ := S.free hp
  have nr0 := S.noroot hp
  obtain ⟨S1, E1⟩ := S.loose hp (.dT [])
  have SM := S1.more ⟨_, upd_same⟩ nr0
  unfold eDct1 at G
  refine pk (g.more p) F _ σ env _ SM ?_
  cases ek : fk env with
  | bad => rw [ek] at G; exact G.elim
  | exc x env' => rw [ek] at G; exact fun F' H' σ' dd hs S' E' r => G F' H' σ' dd hs S'.less.1 (E1.trans E'.less) r
  | ok d1 e1 =>
    rw [ek] at G
    simp only [bind_ok] at G
    intro F1 H1 σ1 hs1 S2 E2 x r1
    subst hs1
    refine pv (g.more p) F1 H1 σ1 e1 _ S2 ?_
    cases ev : fv e1 with
    | bad => rw [ev] at G; exact G.elim
    | exc x env' => rw [ev] at G; exact fun F' H' σ' dd hs S' E' r => G F' H' σ' dd hs S'.less.1 ((E1.trans E2.less).trans E'.less) r
    | ok d2 e2 =>
      rw [ev] at G
      simp only [bind_ok] at G
      intro F2 H2 σ2 hs2 S3 E3 y r2
      subst hs2
      have hp2 : H2 p = some (.dT []) := E3.lk p _ (.inr rfl) (E2.lk p _ (.inr rfl) upd_same)
      have nf2 : ¬ F2 p := fun z => n1 (E2.l p (.inr rfl) (E3.l p (.inr rfl) z))
      obtain ⟨S4, nr⟩ := S3.less
      cases q : keyOf d1 with
      | none => rw [q] at G; exact G.elim
      | some kk =>
        rw [q] at G
        obtain ⟨b, rfl, hb⟩ := keyOf_rep (r1.mono E3.f E3.k).rb q
        have nt : ∀ xs, H2 p ≠ some (.tup xs) := fun xs e => by rw [hp2] at e; cases e
        obtain ⟨S5, E5⟩ := S4.poke ⟨_, hp2⟩ nt nf2 n2 n3 nr (.dT [(kk, y)])
        refine ⟨hp2, b, kk, rfl, hb, ?_⟩
        exact G F2 _ σ2 rfl S5 (((E1.trans E2.less).trans E3.less).trans E5) _ ⟨p, rfl, nf2, n2, n3, nr, .dct upd_same (.cons (r2.mono E5.f E5.k) .nil)⟩
@[simp] theorem ap_eDct1 {fk fv : M D} {e : En} : eDct1 fk fv e = (fk e).bind fun d1 e1 => (fv e1).bind fun d2 e2 => Out.of ((keyOf d1).map fun k => .dct [(k, d2)]) e2 := rfl
/-! o.get(k), o.get(k, d) -/
def getD1 (o k : D) (z : D) : Option D := match o with
  | .dct kvs => (keyOf k).map fun k => (getT kvs k).getD z
  | _ => none
def isDct : D → Bool
  | .dct _ => true
  | _ => false
def eGet (fo fk fz : M D) : M D := fun env => (fo env).bind fun d0 e0 => if isDct d0 = true then (fk e0).bind fun k e1 => (fz e1).bind fun z e2 => Out.of (getD1 d0 k z) e2 else .bad
def eGetV (i : Nat) (fk fz : M D) : M D := fun env => match slotD env i with
  | some (.dct _) => (fk env).bind fun k e1 => (fz e1).bind fun z e2 => Out.of ((slotD e2 i).bind fun d => getD1 d k z) e2
  | _ => .bad
theorem RepB.isd {kvs : List (List Key × D)} {v : V} (r : RepB T F H (.dct kvs) v) : ∃ a, v = .ref a ∧ IsD H a := by
  obtain ⟨a, xs, rfl, ha, _⟩ := r.dct
  exact ⟨a, rfl, .inr ⟨xs, ha⟩⟩
theorem get_core {o k z r : D} {a : Addr} {y u : V} (ro : RepB T F H o (.ref a)) (rk : RepB T F H k y) (rz : Rep T F H z u) (e : getD1 o k z = some r) : ∃ w, DGet H a y w ∧ Rep T F H r (w.getD u) := by
  unfold getD1 at e
  split at e
  · rename_i kvs
    obtain ⟨kk, e1, rfl⟩ := Option.map_eq_some_iff.mp e
    obtain ⟨a', w, ea, gg, i1, i2⟩ := ro.dget rk e1
    cases ea
    refine ⟨w, gg, ?_⟩
    cases c : getT kvs kk with
    | none => rw [i2 c]; exact rz
    | some d => obtain ⟨v, ev, rv⟩ := i1 d c; rw [ev]; exact rv
  · cases e
theorem PX.get2 {o k z : Expr} {fo fk fz : M D} {apos cpos : Pos} (hu : X.A.units + 64 < cLine) (ho : PX X T W o fo) (hk : PX X T W k fk) (hz : PX X T W z fz)
    (hb : attributeBase o "get" X.env (eval o X.env) = eval o X.env := by rfl) (hf : ((backTo cpos (starEach [k, z] X.env)).all (fun x => !x.1) && (backToKw cpos (keywordEach [] X.env)).all (fun x => x.1.isSome) && decide (([k, z] : List Expr).length + ([] : List Keyword).length + (if ([] : List Keyword).isEmpty then 0 else 1) < 30)) = true := by rfl)
    (hl : (apos.endLine == cpos.line) = true := by rfl) (ht : backTo cpos (starEach [k, z] X.env) = [(false, eval k X.env), (false, eval z X.env)] := by rfl) :
    PX X T W (.Call (.Attribute o "get" apos) [k, z] [] cpos) (eGet fo fk fz) := by
  obtain ⟨to, qo, po⟩ := ho.ex
  obtain ⟨tk, qk, pk⟩ := hk.ex
  obtain ⟨tz, qz, pz⟩ := hz.ex
  refine ⟨_, pe_dget2 (by omega) qo qk qz ⟨hb, hf, hl, ht⟩, fun g F H σ env Q S G => po g F H σ env _ S (Goal.bind (fun _ h => h) G fun d0 e0 F0 H0 σ0 _ hs S0 E0 G0 v0 r0 => ?_)⟩
  subst hs
  split at G0
  · rename_i hd
    cases d0 with
    | dct kvs =>
      obtain ⟨a, rfl, hi⟩ := r0.rb.isd
      refine ⟨a, rfl, hi, pk g F0 H0 σ0 e0 _ S0 (Goal.bind (fun _ h => h) G0 fun d1 e1 F1 H1 σ1 _ hs S1 E1 G1 v1 r1 => ?_)⟩
      subst hs
      refine pz g F1 H1 σ1 e1 _ S1 (Goal.bind (fun _ h => h) G1 fun d2 e2 F2 H2 σ2 _ hs S2 E2 G2 v2 r2 => ?_)
      subst hs
      cases q : getD1 (.dct kvs) d1 d2 with
      | none => rw [q] at G2; exact G2.elim
      | some r =>
        rw [q] at G2
        obtain ⟨w, gg, rw'⟩ := get_core ((r0.ext E1).ext E2).rb (r1.ext E2).rb r2 q
        exact ⟨w, gg, G2 F2 H2 σ2 rfl S2 .refl _ rw'⟩
    | _ => cases hd
  · exact G0.elim
theorem PX.get1 {o k : Expr} {fo fk : M D} {apos cpos : Pos} (hu : X.A.units + 64 < cLine) (ho : PX X T W o fo) (hk : PX X T W k fk)
    (hb : attributeBase o "get" X.env (eval o X.env) = eval o X.env := by rfl) (hf : ((backTo cpos (starEach [k] X.env)).all (fun x => !x.1) && (backToKw cpos (keywordEach [] X.env)).all (fun x => x.1.isSome) && decide (([k] : List Expr).length + ([] : List Keyword).length + (if ([] : List Keyword).isEmpty then 0 else 1) < 30)) = true := by rfl)
    (hl : (apos.endLine == cpos.line) = true := by rfl) (ht : backTo cpos (starEach [k] X.env) = [(false, eval k X.env)] := by rfl) :
    PX X T W (.Call (.Attribute o "get" apos) [k] [] cpos) (eGet fo fk (eC .non)) := by
  obtain ⟨to, qo, po⟩ := ho.ex
  obtain ⟨tk, qk, pk⟩ := hk.ex
  refine ⟨_, pe_dget1 (by omega) qo qk ⟨hb, hf, hl, ht⟩, fun g F H σ env Q S G => po g F H σ env _ S (Goal.bind (fun _ h => h) G fun d0 e0 F0 H0 σ0 _ hs S0 E0 G0 v0 r0 => ?_)⟩
  subst hs
  split at G0
  · rename_i hd
    cases d0 with
    | dct kvs =>
      obtain ⟨a, rfl, hi⟩ := r0.rb.isd
      refine ⟨a, rfl, hi, pk g F0 H0 σ0 e0 _ S0 (Goal.bind (fun _ h => h) G0 fun d1 e1 F1 H1 σ1 _ hs S1 E1 G1 v1 r1 => ?_)⟩
      subst hs
      have G2 : EG T g W (RepR T) F1 H1 σ1 Q (Out.of (getD1 (.dct kvs) d1 .non) e1) := G1
      cases q : getD1 (.dct kvs) d1 .non with
      | none => rw [q] at G2; exact G2.elim
      | some r =>
        rw [q] at G2
        obtain ⟨w, gg, rw'⟩ := get_core (r0.ext E1).rb r1.rb .non q
        exact ⟨w, gg, G2 F1 H1 σ1 rfl S1 .refl _ rw'⟩
    | _ => cases hd
  · exact G0.elim
theorem PX.get2V (i : Nat) {x : Str} {k z : Expr} {fk fz : M D} {p apos cpos : Pos} (hu : X.A.units + 64 < cLine) (hk : PX X T W k fk) (hz : PX X T W z fz) (hN : X.N[i]? = some x := by rfl) (hv : Vis X.env.scope x := by first | exact Or.inl rfl | exact Or.inr (Or.inl rfl) | exact Or.inr (Or.inr rfl))
    (hd : (x == ("__debug__" : Str)) = false := by decide) (hcd : (x == ("__classdict__" : Str)) = false := by decide)
    (hb : attributeBase (.Name x p) "get" X.env (eval (.Name x p) X.env) = eval (.Name x p) X.env := by rfl) (hf : ((backTo cpos (starEach [k, z] X.env)).all (fun x => !x.1) && (backToKw cpos (keywordEach [] X.env)).all (fun x => x.1.isSome) && decide (([k, z] : List Expr).length + ([] : List Keyword).length + (if ([] : List Keyword).isEmpty then 0 else 1) < 30)) = true := by rfl)
    (hl : (apos.endLine == cpos.line) = true := by rfl) (ht : backTo cpos (starEach [k, z] X.env) = [(false, eval k X.env), (false, eval z X.env)] := by rfl) :
    PX X T W (.Call (.Attribute (.Name x p) "get" apos) [k, z] [] cpos) (eGetV i fk fz) := by
  obtain ⟨tk, qk, pk⟩ := hk.ex
  obtain ⟨tz, qz, pz⟩ := hz.ex
  refine ⟨_, pe_dget2 (by omega) (pe_var hN hv hd hcd) qk qz ⟨hb, hf, hl, ht⟩, fun g F H σ env Q S G => ?_⟩
  unfold eGetV at G
  split at G
  · rename_i kvs0 e0
    obtain ⟨v0, l0, r0⟩ := S.slotB e0
    obtain ⟨a, rfl, hi⟩ := r0.isd
    refine ⟨.ref a, look_eq l0, a, rfl, hi, pk g F H σ env _ S (Goal.bind (fun _ h => h) G fun d1 e1 F1 H1 σ1 _ hs S1 E1 G1 v1 r1 => ?_)⟩
    subst hs
    refine pz g F1 H1 σ1 e1 _ S1 (Goal.bind (fun _ h => h) G1 fun d2 e2 F2 H2 σ2 _ hs S2 E2 G2 v2 r2 => ?_)
    subst hs
    cases q0 : slotD e2 i with
    | none => rw [q0] at G2; exact G2.elim
    | some o =>
      rw [q0] at G2
      obtain ⟨v3, l3, r3⟩ := S2.slotB q0
      rw [l0] at l3
      cases l3
      cases q : getD1 o d1 d2 with
      | none => simp only [Option.bind_some, q] at G2; exact G2.elim
      | some r =>
        simp only [Option.bind_some, q] at G2
        obtain ⟨w, gg, rw'⟩ := get_core r3 (r1.ext E2).rb r2 q
        exact ⟨w, gg, G2 F2 H2 σ2 rfl S2 .refl _ rw'⟩
  · exact G.elim
theorem PX.get1V (i : Nat) {x : Str} {k : Expr} {fk : M D} {p apos cpos : Pos} (hu : X.A.units + 64 < cLine) (hk : PX X T W k fk) (hN : X.N[i]? = some x := by rfl) (hv : Vis X.env.scope x := by first | exact Or.inl rfl | exact Or.inr (Or.inl rfl) | exact Or.inr (Or.inr rfl))
    (hd : (x == ("__debug__" : Str)) = false := by decide) (hcd : (x == ("__classdict__" : Str)) = false := by decide)
    (hb : attributeBase (.Name x p) "get" X.env (eval (.Name x p) X.env) = eval (.Name x p) X.env := by rfl) (hf : ((backTo cpos (starEach [k] X.env)).all (fun x => !x.1) && (backToKw cpos (keywordEach [] X.env)).all (fun x => x.1.isSome) && decide (([k] : List Expr).length + ([] : List Keyword).length + (if ([] : List Keyword).isEmpty then 0 else 1) < 30)) = true := by rfl)
    (hl : (apos.endLine == cpos.line) = true := by rfl) (ht : backTo cpos (starEach [k] X.env) = [(false, eval k X.env)] := by rfl) :
    PX X T W (.Call (.Attribute (.Name x p) "get" apos) [k] [] cpos) (eGetV i fk (eC .non)) := by
  obtain ⟨tk, qk, pk⟩ := hk.ex
  refine ⟨_, pe_dget1 (by omega) (pe_var hN hv hd hcd) qk ⟨hb, hf, hl, ht⟩, fun g F H σ env Q S G => ?_⟩
  unfold eGetV at G
  split at G
  · rename_i kvs0 e0
    obtain ⟨v0, l0, r0⟩ := S.slotB e0
    obtain ⟨a, rfl, hi⟩ := r0.isd
    refine ⟨.ref a, look_eq l0, a, rfl, hi, pk g F H σ env _ S (Goal.bind (fun _ h => h) G fun d1 e1 F1 H1 σ1 _ hs S1 E1 G1 v1 r1 => ?_)⟩
    subst hs
    have G2 : EG T g W (RepR T) F1 H1 σ1 Q (Out.of ((slotD e1 i).bind fun d => getD1 d d1 .non) e1) := G1
    cases q0 : slotD e1 i with
    | none => rw [q0] at G2; exact G2.elim
    | some o =>
      rw [q0] at G2
      obtain ⟨v3, l3, r3⟩ := S1.slotB q0
      rw [l0] at l3
      cases l3
      cases q : getD1 o d1 .non with
      | none => simp only [Option.bind_some, q] at G2; exact G2.elim
      | some r =>
        simp only [Option.bind_some, q] at G2
        obtain ⟨w, gg, rw'⟩ := get_core r3 r1.rb .non q
        exact ⟨w, gg, G2 F1 H1 σ1 rfl S1 .refl _ rw'⟩
  · exact G.elim
@[simp] theorem ap_eGet {fo fk fz : M D} {e : En} : eGet fo fk fz e = (fo e).bind fun d0 e0 => if isDct d0 = true then (fk e0).bind fun k e1 => (fz e1).bind fun z e2 => Out.of (getD1 d0 k z) e2 else .bad := rfl
@[simp] theorem ap_eGetV {i : Nat} {fk fz : M D} {e : En} : eGetV i fk fz e = match slotD e i with
  | some (.dct _) => (fk e).bind fun k e1 => (fz e1).bind fun z e2 => Out.of ((slotD e2 i).bind fun d => getD1 d k z) e2
  | _ => .bad := rfl
/-! z.index(y) of texts -/
def idxD (a b : D) : Option D := match a, b with
  | .str x, .str y => match Builtin.Str.occurrences x y 0 x.length 1 with
    | i :: _ => some (.int (i : Nat))
    | [] => none
  | _, _ => none
def eIdx (fo fe : M D) : M D := fun env => (fo env).bind fun d1 e1 => match d1 with
  | .str x => (fe e1).bind fun d2 e2 => Out.of (idxD (.str x) d2) e2
  | _ => .bad
theorem PX.idx {o e : Expr} {fo fe : M D} {apos cpos : Pos} (ho : PX X T W o fo) (he : PX X T W e fe) (hbase : attributeBase o "index" X.env (eval o X.env) = eval o X.env := by rfl)
    (hfew : ((backTo cpos (starEach (e :: []) X.env)).all (fun x => !x.1) && (backToKw cpos (keywordEach [] X.env)).all (fun x => x.1.isSome)
      && decide ((e :: []).length + ([] : List Keyword).length + (if ([] : List Keyword).isEmpty then 0 else 1) < 30)) = true := by rfl)
    (hline : (apos.endLine == cpos.line) = true := by rfl) (hs : starEach (e :: []) X.env = (false, eval e X.env) :: starEach [] X.env := by rfl) (hplain : (backTo cpos (starEach [] X.env)).any (·.1) = false := by rfl) :
    PX X T W (.Call (.Attribute o "index" apos) [e] [] cpos) (eIdx fo fe) := by
  obtain ⟨to, qo, po⟩ := ho.ex
  obtain ⟨te, qe, pe⟩ := he.ex
  refine ⟨_, pe_bm PySem.F.plainAttrs_str PySem.F.slot_str_index PySem.F.type_str_index mt_sindex qo (pa_cons qe pa_nil hs) hbase hfew hline hs hplain, fun g F H σ env Q S G => po g F H σ env _ S (Goal.bind (fun _ h => h) G fun d0 e0 F0 H0 σ0 _ hs S0 E0 G0 v0 r0 => ?_)⟩
  subst hs
  split at G0
  · rename_i x _
    cases r0
    refine ⟨rfl, pe g F0 H0 σ0 e0 _ S0 (Goal.bind (fun _ h => h) G0 fun d1 e1 F1 H1 σ1 _ hs S1 E1 G1 v1 r1 => ?_)⟩
    subst hs
    cases q : idxD (.str x) d1 with
    | none => rw [q] at G1; exact G1.elim
    | some r =>
      rw [q] at G1
      unfold idxD at q
      split at q
      · rename_i x' y ex _
        cases ex
        split at q
        · rename_i i rest ho
          cases q
          cases r1
          exact ⟨_, _, i, rest, rfl, rfl, ho, G1 F1 H1 σ1 rfl S1 .refl _ (.int _)⟩
        · cases q
      · cases q
  · exact G0.elim
@[simp] theorem ap_eIdx {fo fe : M D} {e : En} : eIdx fo fe e = (fo e).bind fun d1 e1 => match d1 with
  | .str x => (fe e1).bind fun d2 e2 => Out.of (idxD (.str x) d2) e2
  | _ => .bad := rfl
end
end Pu
/-! enumerate(t) of a tuple -/
namespace PuE
open PySem PySem.Spec PyProof.Rows
section
variable {P : Program} {w : World} {A : Around} {E : Value → Shared → Prop} {s : Shared}
theorem tup_item {j q : Addr} {n : Nat} {xs : Array Value} {y : Value} {Q : Value → Shared → Prop} (g : s.heap.IsTupleIter j q n) (gt : s.heap.IsTuple q xs) (hy : xs[n]? = some y)
    (k : ∀ h', h'.IsTupleIter j q (n + 1) → Heap.SameBut j s.heap h' → Q y { s with heap := h' }) : wpAny (model P w) A (Builtin.SmallTypes.nextOf (.ref j)) Q E s := by
  obtain ⟨ob, hob, cb, db⟩ := id g
  obtain ⟨oq, hoq, _, nq, dq⟩ := gt
  unfold Builtin.SmallTypes.nextOf
  refine wpAny_bind (wpAny_callSpecial?_slot (name := Str.ofString "__next__") g.typeIs F.slot_tuple_iterator_next (wpAny_call_entry F.slot_tuple_iterator_next g.typeIs F.entry_tuple_iterator_next ?_ (F.args_tuple_iterator_next_1 _)))
  show wpAny _ _ (field (.ref j) 0 >>= _) _ _ s
  refine wpAny_bind (wpAny_field hob db (x := .ref q) rfl ?_)
  show wpAny _ _ (if (Value.ref q == Value.none) = true then _ else _) _ _ s
  rw [if_neg (by exact Bool.false_ne_true)]
  show wpAny _ _ (field (.ref j) 1 >>= _) _ _ s
  refine wpAny_bind (wpAny_field hob db (x := .int n 0) rfl ?_)
  show wpAny _ _ (seqItems? (.ref q) >>= _) _ _ s
  refine wpAny_bind (wpAny_seqItems hoq dq ?_)
  simp only [Int.toNat_natCast, hy]
  refine wpAny_bind (wpAny_setField hob db (by simp) (wpAny_pure ⟨y, rfl, wpAny_pure (k _ ⟨_, Heap.get?_update_self _ hob (Obj.isFreed_of_fields (Obj.data_mapFields db _)), (Obj.cls_mapFields ..).trans cb, by rw [Obj.data_mapFields db]; simp [rawInt]⟩ (Heap.SameBut.update ..))⟩))
theorem tup_end {j q : Addr} {n : Nat} {xs : Array Value} {Q : Value → Shared → Prop} (hA : A.handled = none) (g : s.heap.IsTupleIter j q n) (gt : s.heap.IsTuple q xs) (hy : xs[n]? = none)
    (k : ∀ h' e, Heap.ExtBut j s.heap h' → (∃ o, h'.get? e = some o ∧ o.cls = .type "StopIteration") → E (.ref e) { s with heap := h' }) : wpAny (model P w) A (Builtin.SmallTypes.nextOf (.ref j)) Q E s := by
  obtain ⟨ob, hob, cb, db⟩ := id g
  obtain ⟨oq, hoq, _, nq, dq⟩ := gt
  unfold Builtin.SmallTypes.nextOf
  refine wpAny_bind (wpAny_callSpecial?_slot (name := Str.ofString "__next__") g.typeIs F.slot_tuple_iterator_next (wpAny_call_entry F.slot_tuple_iterator_next g.typeIs F.entry_tuple_iterator_next ?_ (F.args_tuple_iterator_next_1 _)))
  show wpAny _ _ (field (.ref j) 0 >>= _) _ _ s
  refine wpAny_bind (wpAny_field hob db (x := .ref q) rfl ?_)
  show wpAny _ _ (if (Value.ref q == Value.none) = true then _ else _) _ _ s
  rw [if_neg (by exact Bool.false_ne_true)]
  show wpAny _ _ (field (.ref j) 1 >>= _) _ _ s
  refine wpAny_bind (wpAny_field hob db (x := .int n 0) rfl ?_)
  show wpAny _ _ (seqItems? (.ref q) >>= _) _ _ s
  refine wpAny_bind (wpAny_seqItems hoq dq ?_)
  simp only [Int.toNat_natCast, hy]
  refine wpAny_bind (wpAny_rule (wpAny_bind (wpAny_setField hob db (by simp) ?_)))
  show wpAny _ _ (newExc (.type "StopIteration") ([] : List Value) >>= _) _ _ _
  refine wpAny_bind (by
    simp only [newExc, newTuple]
    refine wpAny_bind (wpAny_newObj_type (wpAny_bind (m := firstArgMember _ _) (wpAny_of_eq (a := Value.none) (by first | rfl | (simp only [firstArgMember]; rfl)) (wpAny_newObj_type ?_ (by size_fits)))) (by size_fits))
    simp only [raiseNew]
    refine wpAny_bind (wpAny_handled ?_)
    first | rw [show A.in1.handled = none from hA] | rw [hA]
    refine wpAny_bind (wpAny_pure (wpAny_throw (k _ _ (((Heap.SameBut.update ..).extBut.push _).push _) ⟨_, Heap.get?_push_size _ rfl, rfl⟩))))
theorem drawsT (hA : A.handled = none) (j q : Addr) (hne : q ≠ j) (xs : Array Value) : Draws P w A j [j, q] xs.size (fun i v => xs[i]? = some v) (fun i h => h.IsTupleIter j q i ∧ h.IsTuple q xs) where
  live := fun _ _ st => let ⟨o, ho, _⟩ := st.1; ⟨o, ho⟩
  frame := fun _ _ _ st hk => ⟨let ⟨o, ho, r⟩ := st.1; ⟨o, hk j (by simp) o ho, r⟩, let ⟨o, ho, r⟩ := st.2; ⟨o, hk q (by simp) o ho, r⟩⟩
  item := fun i s Q E hi st hQ => tup_item st.1 st.2 (y := xs[i]) (by simp [hi]) fun h' g' sb => hQ _ h' s.toks (by simp [hi]) ⟨g', let ⟨o, ho, r⟩ := st.2; ⟨o, sb.extBut q o hne ho, r⟩⟩ sb
  done := fun s Q E st hE => tup_end hA st.1 st.2 (by simp) hE
theorem en_newT (q : Addr) (xs : Array Value) (n : Nat) (dct : Option Addr) (sl : Array (Option Value)) :
    Meets (Builtin.«enumerate.__new__» ⟨[.type "enumerate", .ref q], []⟩) (fun _ R s => s.heap.get? q = some { cls := .type "tuple", dict := dct, data := .seq xs n, slots := sl } ∧
      R (.ok (.ret (.ref (s.heap.push { cls := .type "tuple_iterator", data := .fields #[.ref q, .int 0 0] }).objs.size)))
        { s with heap := (s.heap.push { cls := .type "tuple_iterator", data := .fields #[.ref q, .int 0 0] }).push { cls := .type "enumerate", data := .fields #[.none, .bool false, .ref s.heap.objs.size, rawInt 0, .none, .none] } }) :=
  .of_wp fun prog w A R s h => by
    obtain ⟨hp, g, d, tk, os⟩ := s; obtain ⟨hq, h⟩ := h
    have hsub := sub_enumerate
    have hT : Heap.IsTuple (Shared.heap ⟨hp, g, d, tk, os⟩) q xs := ⟨_, hq, rfl, n, rfl⟩
    wp_walk using AutoSeq1.wpAny_loadPart' hq
    refine wpAny_stack_any fun st => wpAny_pure ?_
    split
    · rename_i c _ _ _ _ _
      cases (c == Value.type "enumerate")
      · wp_walk using AutoSeq1.wpAny_loadPart' hq, wpAny_pyIter_tuple hT
        exact ⟨_, rfl, h⟩
      · wp_walk using AutoSeq1.wpAny_loadPart' hq, wpAny_pyIter_tuple hT
        exact ⟨_, rfl, h⟩
    · wp_walk using AutoSeq1.wpAny_loadPart' hq, wpAny_pyIter_tuple hT
      exact ⟨_, rfl, h⟩
theorem call_enT {q : Addr} {xs : Array Value} {Q : Value → Shared → Prop} (hT : s.heap.IsTuple q xs)
    (k : ∀ h', IsEnum h' (s.heap.objs.size + 1) s.heap.objs.size 0 .none → h'.IsTupleIter s.heap.objs.size q 0 → h'.objs.size = s.heap.objs.size + 2 → (∀ b o, s.heap.get? b = some o → h'.get? b = some o) → Q (.ref (s.heap.objs.size + 1)) { s with heap := h' }) :
    wpAny (model P w) A (call (.type "enumerate") [.ref q]) Q E s := by
  obtain ⟨⟨c, dct, dt, sl⟩, hq, hc, n, hd⟩ := hT
  simp only at hc hd
  subst hc hd
  refine callType_new F.called_enumerate (by decide) (F.typeCall_enumerate_1 _) (F.newCall_enumerate_1 _) (fun obj => F.args_object_init_2 obj _) F.entry_enumerate_new (en_newT q xs n dct sl) ⟨hq, ?_⟩
  have hz : (s.heap.push { cls := .type "tuple_iterator", data := .fields #[.ref q, .int 0 0] }).objs.size = s.heap.objs.size + 1 := Heap.size_push ..
  show _ ∧ _
  rw [hz]
  have he : IsEnum ((s.heap.push { cls := .type "tuple_iterator", data := .fields #[.ref q, .int 0 0] }).push { cls := .type "enumerate", data := .fields #[.none, .bool false, .ref s.heap.objs.size, rawInt 0, .none, .none] }) (s.heap.objs.size + 1) s.heap.objs.size 0 .none := by
    have z := Heap.get?_push_size (s.heap.push { cls := .type "tuple_iterator", data := .fields #[.ref q, .int 0 0] }) (o := { cls := .type "enumerate", data := .fields #[.none, .bool false, .ref s.heap.objs.size, rawInt 0, .none, .none] }) rfl
    rw [hz] at z; exact z
  exact ⟨⟨_, he, rfl⟩, k _ he ⟨_, Heap.get?_push_of_some _ (Heap.get?_push_size _ rfl), rfl, rfl⟩ (by rw [Heap.size_push, hz]) fun b o x => Heap.get?_push_of_some _ (Heap.get?_push_of_some _ x)⟩
end
end PuE
namespace L2
open PySem PySem.Spec PyProof.Rows
/-- the tuple at a, each item in a new pair -/
def Iet (K : PySem.W.Frag) (a : Addr) : It :=
  ⟨fun i H => ∃ (xs : List V) (x : V), SqT K H a xs ∧ xs[i]? = some x, fun i H v H' => ∃ T x, v = .ref T ∧ H T = none ∧ H' = upd H T (.tup [.int (i : Nat), x]) ∧ ∀ xs, SqT K H a xs → xs[i]? = some x, fun i H => ∃ xs : List V, SqT K H a xs ∧ xs.length = i⟩
theorem turn_enT {P : Program} {w : World} {K : PySem.W.Frag} {elts : List Expr} {kk : Nat} {tpos : Pos} (a e it : Addr) :
    Turn P w K (.Tuple elts kk tpos) (Iet K a) [e, it] e (fun i h => (∃ old, IsEnum h e it ((i : Nat) : Int) old) ∧ h.IsTupleIter it a i ∧ e ≠ it) where
  mem := by simp
  obj := fun i h st b hb => by
    obtain ⟨⟨old, he⟩, ⟨o, ho, hc, hd⟩, _⟩ := st
    have q : b = e ∨ b = it := by simpa using hb
    rcases q with z | z
    · rw [z]; exact ⟨_, he, fun v q => nomatch q⟩
    · rw [z]; exact ⟨o, ho, fun v q => by rw [hd] at q; cases q⟩
  keep := fun i h h' st k => let ⟨⟨old, he⟩, ⟨o, ho, r⟩, hne⟩ := st; ⟨⟨old, k e (by simp) _ he⟩, ⟨o, k it (by simp) o ho, r⟩, hne⟩
  item := by
    intro X hP hw hK hc i pins s σ H E I hf st hg
    subst hP hw hK
    obtain ⟨⟨old, he⟩, hit, hne⟩ := st
    obtain ⟨xs, x, hq, hx⟩ := hg
    obtain ⟨its, rv, p, hz⟩ := I.tuple hq
    obtain ⟨u, hu, ru⟩ := rv.get hx
    have hel : e < s.heap.objs.size := Heap.lt_size he
    have hil : it < s.heap.objs.size := by obtain ⟨_, q, _⟩ := hit; exact Heap.lt_size q
    have nae : a ≠ e := fun z => by
      obtain ⟨o, ho, hc, _⟩ := p
      rw [z, he] at ho
      cases ho
      exact absurd (Value.type.inj hc) (by decide)
    have nai : a ≠ it := fun z => by
      obtain ⟨o, ho, hc, _⟩ := p
      obtain ⟨o2, ho2, hc2, _⟩ := hit
      rw [z, ho2] at ho
      cases ho
      rw [hc] at hc2
      exact absurd (Value.type.inj hc2) (by decide)
    have hui : its.toArray[i]? = some u := by simpa using hu
    have hlt : i < its.toArray.size := by
      obtain ⟨h1, _⟩ := Array.getElem?_eq_some_iff.mp hui
      exact h1
    refine wpAny_pyNext_enum_itemD (PuE.drawsT (P := X.prog) (w := X.w) (A := X.A.in1) (I.ok.hd hc) it a nai its.toArray) he ⟨hit, p⟩ hlt hne (by simp [hne, Ne.symm nae]) fun y h' tk hP ho hit' hT hsz hk => ?_
    obtain rfl : u = y := by rw [hui] at hP; exact Option.some.inj hP
    refine ⟨_, rfl, wpAny_letOwnedTupleGo_enum (s := { s with heap := h', toks := tk + 1 }) ho fun h'' he' sb => ?_⟩
    have hT2 : h''.get? s.heap.objs.size = some { cls := .type "tuple", data := .seq #[.int i tk, u] } := (sb.2 _ (Nat.ne_of_gt hel)).trans hT
    have new : ObjOk X.prog X.w (upd H s.heap.objs.size (.tup [.int (i : Nat), x])) h'' s.heap.objs.size (.tup [.int (i : Nat), x]) :=
      ⟨by show 2 ≤ sizeLine; decide, [.int i tk, u], .cons ⟨_, rfl⟩ (.cons ru .nil), ⟨_, hT2, rfl, _, rfl⟩⟩
    have I1 : Inv X pins σ (upd H s.heap.objs.size (.tup [.int (i : Nat), x])) { s with heap := h'', toks := tk + 1 } :=
      I.turnedNew (ch := [e, it]) (fun b ob hb q => (sb.2 b (fun z => hb (by simp [z]))).trans (hk b ob (fun z => hb (by simp [z])) (fun z => hb (by simp [z])) q)) hf (Nat.le_refl _) new
    refine ⟨.ref s.heap.objs.size, _, I1, rfl, ⟨_, x, rfl, I.hok.fresh (Nat.le_refl _), rfl, fun ys hy => by rw [I.tuple_inj hy hq]; exact hx⟩, ⟨⟨u, ?_⟩, let ⟨o, ho, r⟩ := hit'.1; ⟨o, (sb.2 it (Ne.symm hne)).trans ho, r⟩, hne⟩, fun b hb => ?_⟩
    · have e1 : ((i + 1 : Nat) : Int) = (i : Int) + 1 := by omega
      rw [e1]; exact he'
    · have hb' : b < s.heap.objs.size := by
        have q : b = e ∨ b = it := by simpa using hb
        rcases q with z | z
        · rw [z]; exact hel
        · rw [z]; exact hil
      rw [upd_ne (Nat.ne_of_lt hb')]
      exact (hf b hb).1
  done := by
    intro X hP hw hK hc i pins s σ H E I hf st hg
    subst hP hw hK
    obtain ⟨⟨old, he⟩, hit, hne⟩ := st
    obtain ⟨xs, hq, hx⟩ := hg
    obtain ⟨its, rv, p, hz⟩ := I.tuple hq
    obtain ⟨f0, f1, f2, f3, f4, f5⟩ := hf it (by simp)
    have hl := rv.length
    have nai : a ≠ it := fun z => by
      obtain ⟨o, ho, hc, _⟩ := p
      obtain ⟨o2, ho2, hc2, _⟩ := hit
      rw [z, ho2] at ho
      cases ho
      rw [hc] at hc2
      exact absurd (Value.type.inj hc2) (by decide)
    have hle : i = its.toArray.size := by rw [List.size_toArray]; omega
    rw [hle] at he hit
    exact wpAny_pyNext_enum_endD (PuE.drawsT (P := X.prog) (w := X.w) (A := X.A.in1) (I.ok.hd hc) it a nai its.toArray) he ⟨hit, p⟩ fun h' eb => ⟨rfl, I.turned (t' := s.toks) (fun b o hb q => eb b o hb q) f0 f1 f3 f4 f5⟩
  self := fun A i s Q E st h => let ⟨⟨_, he⟩, _⟩ := st; wpAny_pyIter_enum he h
def iEnT (K : PySem.W.Frag) (ta : TA) : TI := fun σ H R => ta σ H fun vs H1 => ∃ a xs, vs = [.ref a] ∧ SqT K H1 a xs ∧ R (Iet K a) H1
theorem pi_enT {X : Cx} {e : Expr} {ta : TA} {p pos tpos : Pos} {elts : List Expr} {kk : Nat} (hg : Gl X "enumerate") (hm : X.mg "enumerate" = none) (ha : PA X [e] ta) (hs : starEach [e] X.env = [(false, eval e X.env)] := by rfl) :
    PI X (.Tuple elts kk tpos) (.Call (.Name "enumerate" p) [e] [] pos) (iEnT X.K ta) := by
  refine ⟨fun pins s σ H R I h => ?_⟩
  refine Call_ (ld_blt I hg hm boot_enumerate (PyProof.Rows.callWith_type1 (thn (ha.run pos pins s σ H _ I h) fun us s1 ⟨vs, H1, I1, r1, a, xs, ex, hq, q⟩ => ?_) hs rfl))
  subst ex
  cases r1 with
  | cons r rr =>
    cases rr
    cases r
    obtain ⟨its, rv, p', hz⟩ := I1.tuple hq
    refine PuE.call_enT p' fun h' he hit hsz hk => wpAny_pyIter_enum he ?_
    have I2 : Inv X pins σ H1 { s1 with heap := h' } := I1.kept (t' := s1.toks) hk
    refine ⟨s1.heap.objs.size + 1, [s1.heap.objs.size + 1, s1.heap.objs.size], _, _, H1, rfl, I2, turn_enT a (s1.heap.objs.size + 1) s1.heap.objs.size, ⟨⟨.none, he⟩, hit, Nat.succ_ne_self _⟩, fun b hb => ?_, q⟩
    have q2 : b = s1.heap.objs.size + 1 ∨ b = s1.heap.objs.size := by simpa using hb
    have hle : s1.heap.objs.size ≤ b := by
      rcases q2 with z | z
      · rw [z]; exact Nat.le_add_right _ _
      · rw [z]; exact Nat.le_refl _
    exact I1.fpOk hle (I1.hok.fresh hle)
end L2
namespace Pu
open PySem PySem.Spec L2
open PyProof.Rows hiding St
section
variable {X : Cx} {T : Tx} {W : WX}
def enL : Nat → List D → List D
  | _, [] => []
  | i, d :: ds => .tup [.int (i : Nat), d] :: enL (i + 1) ds
theorem enL_len : ∀ (i : Nat) (ds : List D), (enL i ds).length = ds.length
  | _, [] => rfl
  | i, d :: ds => by unfold enL; rw [List.length_cons, List.length_cons, enL_len]
theorem enL_get : ∀ (i j : Nat) (ds : List D), (enL i ds)[j]? = (ds[j]?).map fun d => .tup [.int ((i + j : Nat)), d]
  | _, _, [] => by simp [enL]
  | i, 0, d :: ds => by simp [enL]
  | i, j + 1, d :: ds => by
    unfold enL
    rw [List.getElem?_cons_succ, List.getElem?_cons_succ, enL_get (i + 1) j ds, show i + 1 + j = i + (j + 1) by omega]
theorem wk_enT {K : PySem.W.Frag} {F : Addr → Prop} {H : Hp} {a : Addr} {xs : List V} {ds : List D} (ha : TupF F H a xs) (r : RepL T F H ds xs) : Wk T F H (Iet K a) (enL 0 ds) where
  go := fun F' H' i _ k hi => by
    rw [enL_len] at hi
    obtain ⟨x, hx, _⟩ := r.get (i := i) (d := ds[i]) (List.getElem?_eq_getElem hi)
    exact ⟨xs, x, .inl (ha.kp k), hx⟩
  stop := fun F' H' _ k => ⟨xs, .inl (ha.kp k), by rw [enL_len, r.length]⟩
  yld := fun g F' H' σ env i x H'' hf k S y hi => by
    rw [enL_len] at hi
    obtain ⟨p, z, rfl, hp, rfl, y⟩ := y
    obtain ⟨z', hz, rz⟩ := r.get (i := i) (d := ds[i]) (List.getElem?_eq_getElem hi)
    have := y xs (.inl (ha.kp k))
    rw [hz] at this
    cases this
    obtain ⟨F'', S', E', r'⟩ := new_tup S hp (ds := [.int (i : Nat), ds[i]]) (.cons (.int _) (.cons (rz.mono hf k) .nil)) rfl
    exact ⟨F'', _, by rw [enL_get, List.getElem?_eq_getElem hi, Nat.zero_add]; rfl, S', E', r'⟩
def iEn (fe : M D) : M (List D) := fun env => (fe env).bind fun d e => match d with
  | .tup ds => .ok (enL 0 ds) e
  | _ => .bad
theorem PXI.en {e : Expr} {fe : M D} {p pos tpos : Pos} {elts : List Expr} {kk : Nat} (he : PX X T W e fe) (hm : X.mg "enumerate" = none) (hg : Gl X "enumerate" := by rfl) (hs : starEach [e] X.env = [(false, eval e X.env)] := by rfl) : PXI X T W (.Tuple elts kk tpos) (.Call (.Name "enumerate" p) [e] [] pos) (iEn fe) := by
  obtain ⟨te, qe, pe⟩ := he.ex
  refine ⟨_, pi_enT hg hm (pa_cons qe pa_nil hs) hs, fun g F H σ env R S G => pe g F H σ env _ S (Goal.bind (fun _ h => h) G fun d e1 F1 H1 σ1 _ hs S1 E1 G1 v r => ?_)⟩
  subst hs
  cases d with
  | tup ds =>
    obtain ⟨a, xs, rfl, ha, ra⟩ := r.tupF
    exact ⟨a, xs, rfl, .inl (ha.kp .refl), G1 F1 H1 σ1 rfl S1 .refl _ (wk_enT ha ra)⟩
  | _ => exact G1.elim
@[simp] theorem ap_iEn {fe : M D} {e : En} : iEn fe e = (fe e).bind fun d e => match d with
  | .tup ds => .ok (enL 0 ds) e
  | _ => .bad := rfl
/-- as many turns as a while is given -/
def WN : Nat := 4000
end
end Pu
/-! ## [e for x in xs for y in ys] -/
namespace Pu
open PySem PySem.Spec L2
open PyProof.Rows hiding St
def lcG (tg : MG) (tst : M Bool) (bd : List D → En → Out (List D)) (vs : List Nat) : List D → List D → En → Out (List D)
  | [], acc, e => .ok acc e
  | d :: ds, acc, e => match tg d e with
    | none => .bad
    | some e1 => (tst e1).nox.bind fun b e2 => if b = true then (bd acc e2).nox.bind fun acc' e3 => lcG tg tst bd vs ds acc' (wipeE e3 vs) else lcG tg tst bd vs ds acc (wipeE e2 vs)
def bdE (elt : M D) : List D → En → Out (List D) := fun acc e => (elt e).nox.bind fun y e' => if acc.length < big then .ok (acc ++ [y]) e' else .bad
def bdI (tg : MG) (fi : M (List D)) (tst : M Bool) (elt : M D) (vs : List Nat) : List D → En → Out (List D) := fun acc e => (fi e).nox.bind fun ds e' => lcG tg tst (bdE elt) vs ds acc (wipeE e' vs)
def eLc2 (tg : MG) (fi : M (List D)) (tst : M Bool) (tg1 : MG) (fi1 : M (List D)) (tst1 : M Bool) (elt : M D) (vs vs1 : List Nat) : M D := fun env => (fi env).bind fun ds e1 => (lcG tg tst (bdI tg1 fi1 tst1 elt vs1) vs ds [] (wipeE e1 vs)).nox.bind fun acc e => .ok (.lst acc) e
section
variable {X : Cx} {T : Tx} {W : WX}
/-- behind i items -/
def LInv (T : Tx) (g : G) (p : Addr) (F1 : Addr → Prop) (H1 : Hp) (σ1 : St) (vs : List Nat) (lf : List D → List D → En → Out (List D)) (ds accZ : List D) (envZ : En) (i m : Nat) (H' : Hp) : Prop :=
  m = ds.length - i ∧ i ≤ ds.length ∧ ∃ F' env' acc xs, St8 T (g.lock p) F' H' (wipe σ1 vs) env' ∧ Ext g F1 H1 F' H' ∧ ¬ F' p ∧ H' p = some (.lst xs) ∧ RepL T F' H' acc xs ∧ (∀ i ∈ vs, ∀ s, env'[i]? = some s → s = .no) ∧ lf (ds.drop i) acc env' = .ok accZ envZ
theorem lc_turns {gt : TG} {tt : TT} {Mid : St → Hp → (Hp → Prop) → Prop} {vs : List Nat} {ft : MG} {ftst : M Bool} {bd : List D → En → Out (List D)}
    (pt : ∀ g F H σ env d v Q env', St8 T g F H σ env → Rep T F H d v → ft d env = some env' → (∀ σ', St8 T g F H σ' env' → (∀ i, i ∉ vs → look σ' i = look σ i) → wipe σ' vs = wipe σ vs → Q σ' H) → gt v σ H Q)
    (ptst : ∀ g F H σ env Q, St8 T g F H σ env → TGo T g W0 F H σ Q (ftst env) → tt σ H Q)
    {g : G} {F1 : Addr → Prop} {H1 : Hp} {σ1 : St} {p : Addr} {ds : List D} {J : It} (wk : Wk T F1 H1 J ds) {accZ : List D} {envZ : En}
    (pmid : ∀ (F : Addr → Prop) (H : Hp) (σ : St) (env : En) (acc : List D) (xs : List V) (acc' : List D) (env' : En) (Nx : Hp → Prop), St8 T (g.lock p) F H σ env → ¬ F p → H p = some (.lst xs) → RepL T F H acc xs → bd acc env = .ok acc' env' →
      (∀ (F' : Addr → Prop) (H' : Hp) (σ' : St) (xs' : List V), St8 T (g.lock p) F' H' σ' env' → (∀ i, i ∉ vs → look σ' i = look σ i) → σ'.length = σ.length → Ext g F H F' H' → ¬ F' p → H' p = some (.lst xs') → RepL T F' H' acc' xs' → Nx H') → Mid σ H Nx)
    {Fin : Hp → Prop} (fin : ∀ (F' : Addr → Prop) (H' : Hp) (xs : List V), St8 T (g.lock p) F' H' (wipe σ1 vs) envZ → Ext g F1 H1 F' H' → ¬ F' p → H' p = some (.lst xs) → RepL T F' H' accZ xs → (∀ i ∈ vs, ∀ s, envZ[i]? = some s → s = .no) → Fin H') (i m : Nat) (H' : Hp) (Z : LInv T g p F1 H1 σ1 vs (lcG ft ftst bd vs) ds accZ envZ i m H') :
    (J.stop i H' ∧ Fin H') ∨ (J.go i H' ∧ ∃ Nx : Hp → Prop, (∀ H', Nx H' → ∃ m', m' < m ∧ LInv T g p F1 H1 σ1 vs (lcG ft ftst bd vs) ds accZ envZ (i + 1) m' H') ∧ ∀ x H2, J.yld i H' x H2 → gt x (wipe σ1 vs) H2 fun σ2 H3 => wipe σ2 vs = wipe σ1 vs ∧ tt σ2 H3 fun b H4 => if b = true then Mid σ2 H4 Nx else Nx H4) := by
  obtain ⟨rfl, hi, F', env', acc, xs, S', E', nf, hx, rx, hno, G'⟩ := Z
  by_cases hlt : i < ds.length
  · refine .inr ⟨wk.go F' H' i E'.f E'.k hlt, fun H2 => ∃ m', m' < ds.length - i ∧ LInv T g p F1 H1 σ1 vs (lcG ft ftst bd vs) ds accZ envZ (i + 1) m' H2, fun _ z => z, fun x H2 y => ?_⟩
    obtain ⟨F2, d, hd, S2, E2, r2⟩ := wk.yld (g.lock p) F' H' _ env' i x H2 E'.f E'.k S' y hlt
    have ed : ds.drop i = d :: ds.drop (i + 1) := by
      rw [List.getElem?_eq_getElem hlt] at hd
      rw [List.drop_eq_getElem_cons hlt, Option.some.inj hd]
    rw [ed] at G'
    unfold lcG at G'
    cases et : ft d env' with
    | none => simp only [et] at G'; cases G'
    | some e2 =>
      simp only [et] at G'
      refine pt (g.lock p) F2 H2 _ env' d x _ e2 S2 r2 et fun σ3 S3 hl3 hw3 => ⟨?_, ?_⟩
      · rw [hw3, wipe_idem]
      have l3 : σ3.length = σ1.length := by have := congrArg List.length hw3; rw [wipe_length, wipe_length, wipe_length] at this; exact this
      have fin5 : ∀ (F5 : Addr → Prop) (H5 : Hp) (σ5 : St) (env5 : En) (acc5 : List D) (xs5 : List V), St8 T (g.lock p) F5 H5 σ5 env5 → (∀ i, i ∉ vs → look σ5 i = look σ3 i) → σ5.length = σ3.length → Ext g F1 H1 F5 H5 → ¬ F5 p → H5 p = some (.lst xs5) → RepL T F5 H5 acc5 xs5 → lcG ft ftst bd vs (ds.drop (i + 1)) acc5 (wipeE env5 vs) = .ok accZ envZ →
          ∃ m', m' < ds.length - i ∧ LInv T g p F1 H1 σ1 vs (lcG ft ftst bd vs) ds accZ envZ (i + 1) m' H5 := fun F5 H5 σ5 env5 acc5 xs5 S5 lk5 ln5 E5 n5 h5 a5 G5 => by
        have r5 : ¬ Roots σ5 env5 p := by
          rintro ⟨j, s, e, hs, l⟩
          obtain ⟨a, d, h1, _, _, h4, _⟩ := (S5.sl j s e).root hs
          rw [l] at h1
          cases h1
          exact h4 (.inr rfl)
        have SX := S5.unlock.wiped (σ2 := wipe σ1 vs) vs (fun j hj => by rw [lk5 j hj, hl3 j hj]) (by rw [wipe_length, ln5, l3])
        refine ⟨_, by omega, rfl, hlt, F5, wipeE env5 vs, acc5, xs5, SX.lock ⟨_, h5⟩ ?_, E5, n5, h5, a5, fun j hj s e => ?_, G5⟩
        · rintro ⟨j, s, e, hs, l⟩
          rcases wipeE_get e with ⟨_, z⟩ | ⟨z, e⟩
          · rw [z] at hs; cases hs
          · exact r5 ⟨j, s, e, hs, by rw [look_wipe, if_neg z] at l; rw [lk5 j z, hl3 j z, look_wipe, if_neg z]; exact l⟩
        · rcases wipeE_get e with ⟨_, z⟩ | ⟨z, _⟩
          · exact z
          · exact absurd hj z
      cases ct : ftst e2 with
      | bad => rw [ct] at G'; cases G'
      | exc x e => rw [ct] at G'; cases G'
      | ok b e3 =>
        rw [ct] at G'
        have G' : (if b = true then (bd acc e3).nox.bind fun acc' e4 => lcG ft ftst bd vs (ds.drop (i + 1)) acc' (wipeE e4 vs) else lcG ft ftst bd vs (ds.drop (i + 1)) acc (wipeE e3 vs)) = .ok accZ envZ := G'
        refine ptst (g.lock p) F2 H2 σ3 e2 _ S3 ?_
        rw [ct]
        intro F3 H3 σ4 hs4 S4 E4
        subst hs4
        have hx3 := E4.lk p _ (.inr rfl) (E2.lk p _ (.inr rfl) hx)
        have nf3 : ¬ F3 p := fun z => nf (E2.l p (.inr rfl) (E4.l p (.inr rfl) z))
        have rx3 := (rx.mono E2.f E2.k).mono E4.f E4.k
        have EE := (E'.trans E2.unlock).trans E4.unlock
        cases b with
        | false =>
          rw [if_neg Bool.false_ne_true] at G' ⊢
          exact fin5 F3 H3 _ e3 acc xs S4 (fun _ _ => rfl) rfl EE nf3 hx3 rx3 G'
        | true =>
          rw [if_pos rfl] at G' ⊢
          cases ce : bd acc e3 with
          | bad => rw [ce] at G'; cases G'
          | exc x e => rw [ce] at G'; cases G'
          | ok acc' e4 =>
            rw [ce] at G'
            have G' : lcG ft ftst bd vs (ds.drop (i + 1)) acc' (wipeE e4 vs) = .ok accZ envZ := G'
            exact pmid F3 H3 _ e3 acc xs acc' e4 _ S4 nf3 hx3 rx3 ce fun F5 H5 σ5 xs5 S5 lk5 ln5 E5 n5 h5 a5 => fin5 F5 H5 σ5 e4 acc' xs5 S5 lk5 ln5 (EE.trans E5) n5 h5 a5 G'
  · have e : i = ds.length := by omega
    subst e
    rw [List.drop_length] at G'
    cases G'
    exact .inl ⟨wk.stop F' H' E'.f E'.k, fin F' H' xs S' E' nf hx rx hno⟩
theorem mid_elt {te : TE} {felt : M D} (pelt : ∀ g F H σ env Q, St8 T g F H σ env → EG T g W0 (RepR T) F H σ Q (felt env) → te σ H Q) {g : G} {p : Addr} (n2 : ¬ g.L p) (n3 : g.H0 p = none) (vs : List Nat)
    (F : Addr → Prop) (H : Hp) (σ : St) (env : En) (acc : List D) (xs : List V) (acc' : List D) (env' : En) (Nx : Hp → Prop) (S : St8 T (g.lock p) F H σ env) (nf : ¬ F p) (hx : H p = some (.lst xs)) (rx : RepL T F H acc xs) (ce : bdE felt acc env = .ok acc' env')
    (k : ∀ (F' : Addr → Prop) (H' : Hp) (σ' : St) (xs' : List V), St8 T (g.lock p) F' H' σ' env' → (∀ i, i ∉ vs → look σ' i = look σ i) → σ'.length = σ.length → Ext g F H F' H' → ¬ F' p → H' p = some (.lst xs') → RepL T F' H' acc' xs' → Nx H') :
    te σ H fun y H7 => ∃ acc, H7 p = some (.lst acc) ∧ acc.length < sizeLine ∧ Nx (upd H7 p (.lst (acc ++ [y]))) := by
  unfold bdE at ce
  cases c : felt env with
  | bad => rw [c] at ce; cases ce
  | exc x e => rw [c] at ce; cases ce
  | ok y e4 =>
    rw [c] at ce
    have ce : (if acc.length < big then Out.ok (acc ++ [y]) e4 else .bad) = .ok acc' env' := ce
    by_cases hb : acc.length < big
    · rw [if_pos hb] at ce
      cases ce
      refine pelt (g.lock p) F H σ env _ S ?_
      rw [c]
      intro F4 H4 σ5 hs5 S5 E5 v rv
      subst hs5
      have hx4 := E5.lk p _ (.inr rfl) hx
      have nf4 : ¬ F4 p := fun z => nf (E5.l p (.inr rfl) z)
      have rx4 := rx.mono E5.f E5.k
      have unr : ¬ Roots σ5 env' p := by
        rintro ⟨j, s, e, hs, l⟩
        obtain ⟨a, d, h1, _, _, h4, _⟩ := (S5.sl j s e).root hs
        rw [l] at h1
        cases h1
        exact h4 (.inr rfl)
      obtain ⟨S6, E6⟩ := S5.unlock.poke ⟨_, hx4⟩ (fun xs e => by rw [hx4] at e; cases e) nf4 n2 n3 unr (.lst (xs ++ [v]))
      exact ⟨xs, hx4, Nat.lt_of_lt_of_le (by rw [← rx4.length]; exact hb) big_line, k F4 _ σ5 (xs ++ [v]) (S6.lock ⟨_, upd_same⟩ unr) (fun _ _ => rfl) rfl (E5.unlock.trans E6) nf4 upd_same ((rx4.snoc rv).mono E6.f E6.k)⟩
    · rw [if_neg hb] at ce; cases ce
theorem lc2_core {wi wi1 : TI} {gt gt1 : TG} {tt tt1 : TT} {te : TE} {vs vs1 : List Nat} {ft ft1 : MG} {fi fi1 : M (List D)} {ftst ftst1 : M Bool} {felt : M D} (hv : ∀ i ∈ vs1, i ∈ vs)
    (pi : ∀ g F H σ env R, St8 T g F H σ env → Goal T g W F H (· = σ) (fun F1 H1 _ _ ds => ∀ J, Wk T F1 H1 J ds → R J H1) (fi env) → wi σ H R)
    (pt : ∀ g F H σ env d v Q env', St8 T g F H σ env → Rep T F H d v → ft d env = some env' → (∀ σ', St8 T g F H σ' env' → (∀ i, i ∉ vs → look σ' i = look σ i) → wipe σ' vs = wipe σ vs → Q σ' H) → gt v σ H Q)
    (ptst : ∀ g F H σ env Q, St8 T g F H σ env → TGo T g W0 F H σ Q (ftst env) → tt σ H Q)
    (pi1 : ∀ g F H σ env R, St8 T g F H σ env → Goal T g W0 F H (· = σ) (fun F1 H1 _ _ ds => ∀ J, Wk T F1 H1 J ds → R J H1) (fi1 env) → wi1 σ H R)
    (pt1 : ∀ g F H σ env d v Q env', St8 T g F H σ env → Rep T F H d v → ft1 d env = some env' → (∀ σ', St8 T g F H σ' env' → (∀ i, i ∉ vs1 → look σ' i = look σ i) → wipe σ' vs1 = wipe σ vs1 → Q σ' H) → gt1 v σ H Q)
    (ptst1 : ∀ g F H σ env Q, St8 T g F H σ env → TGo T g W0 F H σ Q (ftst1 env) → tt1 σ H Q)
    (pelt : ∀ g F H σ env Q, St8 T g F H σ env → EG T g W0 (RepR T) F H σ Q (felt env) → te σ H Q)
    {g : G} {F : Addr → Prop} {H : Hp} {σ : St} {env : En} {Q : VK} (S : St8 T g F H σ env) (G : EG T g W (OwnR T g) F H σ Q (eLc2 ft fi ftst ft1 fi1 ftst1 felt vs vs1 env)) : tLc2 wi gt tt wi1 gt1 tt1 te vs vs1 σ H Q := by
  refine pi g F H σ env _ S (Goal.bind (fun _ h => h) G fun ds e1 F1 H1 σ1 _ hs S1 E1 G1 J wk p hp => ?_)
  subst hs
  have SW := S1.wiped (σ2 := wipe σ1 vs) vs (wipe_wipe σ1 vs) (wipe_length σ1 vs)
  obtain ⟨SL, EL⟩ := SW.loose hp (.lst [])
  obtain ⟨n1, n2, n3, n4, n5⟩ := SW.free hp
  have nr := SW.noroot hp
  cases co : lcG ft ftst (bdI ft1 fi1 ftst1 felt vs1) vs ds [] (wipeE e1 vs) with
  | bad => rw [co] at G1; exact G1.elim
  | exc x e => rw [co] at G1; exact G1.elim
  | ok accZ envZ =>
    rw [co] at G1
    refine ⟨LInv T g p F1 H1 σ1 vs (lcG ft ftst (bdI ft1 fi1 ftst1 felt vs1) vs) ds accZ envZ, ⟨ds.length, by simp, Nat.zero_le _, F1, wipeE e1 vs, [], [], SL.lock ⟨_, upd_same⟩ nr, EL, n1, upd_same, .nil, fun i hi s e => ?_, co⟩, ?_⟩
    · rcases wipeE_get e with ⟨_, z⟩ | ⟨z, _⟩
      · exact z
      · exact absurd hi z
    refine lc_turns pt ptst wk (fun F H σ env acc xs acc' env' Nx S nf hx rx ce k => ?_) (fun F' H' xs S' E' nf hx rx hno => ?_)
    · -- the inner walk
      unfold bdI at ce
      cases c : fi1 env with
      | bad => rw [c] at ce; cases ce
      | exc x e => rw [c] at ce; cases ce
      | ok ds1 e3 =>
        rw [c] at ce
        have ce : lcG ft1 ftst1 (bdE felt) vs1 ds1 acc (wipeE e3 vs1) = .ok acc' env' := ce
        refine pi1 (g.lock p) F H σ env _ S ?_
        rw [c]
        intro F3 H3 σ3 hs3 S3 E3 J1 wk1
        subst hs3
        have hx3 := E3.lk p _ (.inr rfl) hx
        have nf3 : ¬ F3 p := fun z => nf (E3.l p (.inr rfl) z)
        have rx3 := rx.mono E3.f E3.k
        have SV := S3.wiped (σ2 := wipe σ3 vs1) vs1 (wipe_wipe σ3 vs1) (wipe_length σ3 vs1)
        refine ⟨LInv T g p F3 H3 σ3 vs1 (lcG ft1 ftst1 (bdE felt) vs1) ds1 acc' env', ⟨ds1.length, by simp, Nat.zero_le _, F3, wipeE e3 vs1, acc, xs, SV, .refl, nf3, hx3, rx3, fun i hi s e => ?_, ce⟩, ?_⟩
        · rcases wipeE_get e with ⟨_, z⟩ | ⟨z, _⟩
          · exact z
          · exact absurd hi z
        exact lc_turns pt1 ptst1 wk1 (mid_elt pelt n2 n3 vs1) fun F' H' xs' S' E' nf' hx' rx' _ => k F' H' (wipe σ3 vs1) xs' S' (fun i hi => wipe_wipe σ3 vs1 i fun z => hi (hv i z)) (wipe_length σ3 vs1) (E3.unlock.trans E') nf' hx' rx'
    · have back : St8 T g F' H' σ1 envZ := by
        refine ⟨by rw [S'.len, wipe_length], fun j s e => ?_, fun j k s s' a jk e e' hs hs' lj => ?_, S'.fdom, S'.fnew, fun a h => S'.ldom a (.inl h), S'.wdom, S'.zdom, S'.keep⟩
        · by_cases hj : j ∈ vs
          · rw [hno j hj s e]; exact .no
          · have r := S'.unlock.sl j s e
            rw [look_wipe, if_neg hj] at r
            exact r
        · by_cases hj : j ∈ vs
          · rw [hno j hj s e] at hs; cases hs
          · by_cases hk : k ∈ vs
            · rw [hno k hk s' e'] at hs'; cases hs'
            · have z := S'.dis j k s s' a jk e e' hs hs' (by rw [look_wipe, if_neg hj]; exact lj)
              rw [look_wipe, if_neg hk] at z
              exact z
      have rootp : ¬ Roots σ1 envZ p := by
        rintro ⟨j, s, e, hs, l⟩
        have hj : j ∉ vs := fun hj => by rw [hno j hj s e] at hs; cases hs
        obtain ⟨a, d, h1, _, _, h4, _⟩ := (S'.sl j s e).root hs
        rw [look_wipe, if_neg hj, l] at h1
        cases h1
        exact h4 (.inr rfl)
      have G2 : EG T g W (OwnR T g) F1 H1 σ1 Q (.ok (.lst accZ) envZ) := G1
      exact G2 F' H' σ1 rfl back E' _ ⟨p, rfl, nf, n2, n3, rootp, .lst hx rx⟩
def cI (T : Tx) (W : WX) (f : M (List D)) : TI := fun σ H R => ∃ g F env, St8 T g F H σ env ∧ Goal T g W F H (· = σ) (fun F1 H1 _ _ ds => ∀ J, Wk T F1 H1 J ds → R J H1) (f env)
theorem PXI.canon {tg e : Expr} {f : M (List D)} (h : PXI X T W tg e f) : PI X tg e (cI T W f) := by
  obtain ⟨t, q, p⟩ := h.ex
  exact ⟨fun pins s σ H R I ⟨g, F, env, S, G⟩ => q.run pins s σ H R I (p g F H σ env R S G)⟩
theorem PXO.lc2 {elt tg iter tg1 iter1 : Expr} {ifs ifs1 : List Expr} {scope : Scope} {pos : Pos} {ft ft1 : MG} {fi fi1 : M (List D)} {ftst ftst1 : M Bool} {felt : M D} (own : List (Str × Nat)) (vs1 : List Nat) (hc : X.calm = true) (hN : X.N.Nodup) (hi : PXI X T W tg iter fi) (ok : blkC X.N X.env.scope scope own = true) (hv : ∀ i ∈ vs1, i ∈ own.map (·.2))
    (ht : ∀ (s : Shared) (H : Hp) (C : Addr) (cl : List (Str × Addr)) (fp : List Addr), PXC (X.blk s H scope (compEnvC scope cl C X.env) fp) T (own.map (·.2)) tg ft)
    (htst : ∀ (s : Shared) (H : Hp) (C : Addr) (cl : List (Str × Addr)) (fp : List Addr), PXTs (X.blk s H scope (compEnvC scope cl C X.env) fp) T W0 ifs ftst)
    (hi1 : ∀ (s : Shared) (H : Hp) (C : Addr) (cl : List (Str × Addr)) (fp : List Addr), PXI (X.blk s H scope (compEnvC scope cl C X.env) fp) T W0 tg1 iter1 fi1)
    (ht1 : ∀ (s : Shared) (H : Hp) (C : Addr) (cl : List (Str × Addr)) (fp : List Addr), PXC (X.blk s H scope (compEnvC scope cl C X.env) fp) T vs1 tg1 ft1)
    (htst1 : ∀ (s : Shared) (H : Hp) (C : Addr) (cl : List (Str × Addr)) (fp : List Addr), PXTs (X.blk s H scope (compEnvC scope cl C X.env) fp) T W0 ifs1 ftst1)
    (helt : ∀ (s : Shared) (H : Hp) (C : Addr) (cl : List (Str × Addr)) (fp : List Addr), PX (X.blk s H scope (compEnvC scope cl C X.env) fp) T W0 elt felt) (hs : ∀ x, foldedSetIterable iter X.env x = pure x := by intro _; rfl) (hs1 : ∀ env x, foldedSetIterable iter1 env x = pure x := by intro _ _; rfl) :
    PXO X T W (.ListComp elt [⟨tg, iter, ifs, 0⟩, ⟨tg1, iter1, ifs1, 0⟩] scope pos) (eLc2 ft fi ftst ft1 fi1 ftst1 felt (own.map (·.2)) vs1) := by
  obtain ⟨wi, qi, pi⟩ := hi.ex
  refine ⟨_, pe_lc2 (wi1 := cI T W0 fi1) hc hN qi (blkOk_by ok) hv (fun s H C cl fp => (ht s H C cl fp).canon) (fun s H C cl fp => (htst s H C cl fp).canon) (fun s H C cl fp => (hi1 s H C cl fp).canon) (fun s H C cl fp => (ht1 s H C cl fp).canon) (fun s H C cl fp => (htst1 s H C cl fp).canon) (fun s H C cl fp => (helt s H C cl fp).canon) hs hs1, fun g F H σ env Q S G => ?_⟩
  exact lc2_core hv pi (fun g F H σ env d v Q env' S r e k => ⟨g, F, env, d, env', S, r, e, k⟩) (fun g F H σ env Q S G => ⟨g, F, env, S, G⟩) (fun g F H σ env R S G => ⟨g, F, env, S, G⟩) (fun g F H σ env d v Q env' S r e k => ⟨g, F, env, d, env', S, r, e, k⟩) (fun g F H σ env Q S G => ⟨g, F, env, S, G⟩) (fun g F H σ env Q S G => ⟨g, F, env, S, G⟩) S G
end
end Pu
/-! enumerate(z) of a text -/
namespace PuE
open PySem PySem.Spec PyProof.Rows
theorem drawsS {P : Program} {w : World} {A : Around} (hA : A.handled = none) (it : Addr) (x : Str) (t : Tok) : Draws P w A it [it] x.cps.size (fun i v => ∃ c u, x.cps[i]? = some c ∧ v = Value.str ⟨#[c]⟩ u) (fun i h => h.IsStrIter it (strIterType x) x t i) := by
  unfold strIterType
  split
  · exact Draws.strAscii hA it x t
  · exact Draws.strWide hA it x t
end PuE
namespace L2
open PySem PySem.Spec PyProof.Rows
/-- the signs of a text, each in a new pair -/
def Ies (x : Str) : It :=
  ⟨fun i _ => i < x.cps.size, fun i H v H' => ∃ T c, v = .ref T ∧ H T = none ∧ H' = upd H T (.tup [.int (i : Nat), .str ⟨#[c]⟩]) ∧ x.cps[i]? = some c, fun i _ => i = x.cps.size⟩
theorem turn_enS {P : Program} {w : World} {K : PySem.W.Frag} {elts : List Expr} {kk : Nat} {tpos : Pos} (x : Str) (t : Tok) (e it : Addr) :
    Turn P w K (.Tuple elts kk tpos) (Ies x) [e, it] e (fun i h => (∃ old, IsEnum h e it ((i : Nat) : Int) old) ∧ h.IsStrIter it (strIterType x) x t i ∧ e ≠ it) where
  mem := by simp
  obj := fun i h st b hb => by
    obtain ⟨⟨old, he⟩, ⟨o, ho, hc, hd⟩, _⟩ := st
    have q : b = e ∨ b = it := by simpa using hb
    rcases q with z | z
    · rw [z]; exact ⟨_, he, fun v q => nomatch q⟩
    · rw [z]; exact ⟨o, ho, fun v q => by rw [hd] at q; cases q⟩
  keep := fun i h h' st k => let ⟨⟨old, he⟩, ⟨o, ho, r⟩, hne⟩ := st; ⟨⟨old, k e (by simp) _ he⟩, ⟨o, k it (by simp) o ho, r⟩, hne⟩
  item := by
    intro X hP hw hK hc i pins s σ H E I hf st hg
    subst hP hw hK
    obtain ⟨⟨old, he⟩, hit, hne⟩ := st
    have hlt : i < x.cps.size := hg
    have hel : e < s.heap.objs.size := Heap.lt_size he
    have hil : it < s.heap.objs.size := by obtain ⟨_, q, _⟩ := hit; exact Heap.lt_size q
    refine wpAny_pyNext_enum_itemD (PuE.drawsS (P := X.prog) (w := X.w) (A := X.A.in1) (I.ok.hd hc) it x t) he hit hlt hne (by simp [hne]) fun y h' tk hP ho hit' hT hsz hk => ?_
    obtain ⟨c, u, hx, rfl⟩ := hP
    refine ⟨_, rfl, wpAny_letOwnedTupleGo_enum (s := { s with heap := h', toks := tk + 1 }) ho fun h'' he' sb => ?_⟩
    have hT2 : h''.get? s.heap.objs.size = some { cls := .type "tuple", data := .seq #[.int i tk, .str ⟨#[c]⟩ u] } := (sb.2 _ (Nat.ne_of_gt hel)).trans hT
    have new : ObjOk X.prog X.w (upd H s.heap.objs.size (.tup [.int (i : Nat), .str ⟨#[c]⟩])) h'' s.heap.objs.size (.tup [.int (i : Nat), .str ⟨#[c]⟩]) :=
      ⟨by show 2 ≤ sizeLine; decide, [.int i tk, .str ⟨#[c]⟩ u], .cons ⟨_, rfl⟩ (.cons ⟨_, rfl⟩ .nil), ⟨_, hT2, rfl, _, rfl⟩⟩
    have I1 : Inv X pins σ (upd H s.heap.objs.size (.tup [.int (i : Nat), .str ⟨#[c]⟩])) { s with heap := h'', toks := tk + 1 } :=
      I.turnedNew (ch := [e, it]) (fun b ob hb q => (sb.2 b (fun z => hb (by simp [z]))).trans (hk b ob (fun z => hb (by simp [z])) (fun z => hb (by simp [z])) q)) hf (Nat.le_refl _) new
    refine ⟨.ref s.heap.objs.size, _, I1, rfl, ⟨_, c, rfl, I.hok.fresh (Nat.le_refl _), rfl, hx⟩, ⟨⟨.str ⟨#[c]⟩ u, ?_⟩, let ⟨o, ho, r⟩ := hit'; ⟨o, (sb.2 it (Ne.symm hne)).trans ho, r⟩, hne⟩, fun b hb => ?_⟩
    · have e1 : ((i + 1 : Nat) : Int) = (i : Int) + 1 := by omega
      rw [e1]; exact he'
    · have hb' : b < s.heap.objs.size := by
        have q : b = e ∨ b = it := by simpa using hb
        rcases q with z | z
        · rw [z]; exact hel
        · rw [z]; exact hil
      rw [upd_ne (Nat.ne_of_lt hb')]
      exact (hf b hb).1
  done := by
    intro X hP hw hK hc i pins s σ H E I hf st hg
    subst hP hw hK
    obtain ⟨⟨old, he⟩, hit, hne⟩ := st
    obtain ⟨f0, f1, f2, f3, f4, f5⟩ := hf it (by simp)
    have hle : i = x.cps.size := hg
    rw [hle] at he hit
    exact wpAny_pyNext_enum_endD (PuE.drawsS (P := X.prog) (w := X.w) (A := X.A.in1) (I.ok.hd hc) it x t) he hit fun h' eb => ⟨rfl, I.turned (t' := s.toks) (fun b o hb q => eb b o hb q) f0 f1 f3 f4 f5⟩
  self := fun A i s Q E st h => let ⟨⟨_, he⟩, _⟩ := st; wpAny_pyIter_enum he h
/-- enumerate of a tuple or a text -/
def iEnA (K : PySem.W.Frag) (ta : TA) : TI := fun σ H R => ta σ H fun vs H1 => (∃ a xs, vs = [.ref a] ∧ SqT K H1 a xs ∧ R (Iet K a) H1) ∨ ∃ x, vs = [.str x] ∧ R (Ies x) H1
theorem pi_enA {X : Cx} {e : Expr} {ta : TA} {p pos tpos : Pos} {elts : List Expr} {kk : Nat} (hg : Gl X "enumerate") (hm : X.mg "enumerate" = none) (ha : PA X [e] ta) (hs : starEach [e] X.env = [(false, eval e X.env)] := by rfl) :
    PI X (.Tuple elts kk tpos) (.Call (.Name "enumerate" p) [e] [] pos) (iEnA X.K ta) := by
  refine ⟨fun pins s σ H R I h => ?_⟩
  refine Call_ (ld_blt I hg hm boot_enumerate (PyProof.Rows.callWith_type1 (thn (ha.run pos pins s σ H _ I h) fun us s1 ⟨vs, H1, I1, r1, q0⟩ => ?_) hs rfl))
  have fp : ∀ (h' : Heap), (∀ b o, s1.heap.get? b = some o → h'.get? b = some o) → ∀ b ∈ [s1.heap.objs.size + 1, s1.heap.objs.size], s1.heap.objs.size ≤ b := fun h' hk b hb => by
    have q2 : b = s1.heap.objs.size + 1 ∨ b = s1.heap.objs.size := by simpa using hb
    rcases q2 with z | z
    · rw [z]; exact Nat.le_add_right _ _
    · rw [z]; exact Nat.le_refl _
  rcases q0 with ⟨a, xs, ex, hq, q⟩ | ⟨x, ex, q⟩
  · subst ex
    cases r1 with
    | cons r rr =>
      cases rr
      cases r
      obtain ⟨its, rv, p', hz⟩ := I1.tuple hq
      refine PuE.call_enT p' fun h' he hit hsz hk => wpAny_pyIter_enum he ?_
      have I2 : Inv X pins σ H1 { s1 with heap := h' } := I1.kept (t' := s1.toks) hk
      refine ⟨s1.heap.objs.size + 1, [s1.heap.objs.size + 1, s1.heap.objs.size], _, _, H1, rfl, I2, turn_enT a (s1.heap.objs.size + 1) s1.heap.objs.size, ⟨⟨.none, he⟩, hit, Nat.succ_ne_self _⟩, fun b hb => ?_, q⟩
      have hle := fp h' hk b hb
      exact I1.fpOk hle (I1.hok.fresh hle)
  · subst ex
    cases r1 with
    | cons r rr =>
      cases rr
      obtain ⟨t, rfl⟩ := r
      refine call_enumerate_str fun h' he hit hsz hk => wpAny_pyIter_enum he ?_
      have I2 : Inv X pins σ H1 { s1 with heap := h' } := I1.kept (t' := s1.toks) hk
      refine ⟨s1.heap.objs.size + 1, [s1.heap.objs.size + 1, s1.heap.objs.size], _, _, H1, rfl, I2, turn_enS x t (s1.heap.objs.size + 1) s1.heap.objs.size, ⟨⟨.none, he⟩, hit, Nat.succ_ne_self _⟩, fun b hb => ?_, q⟩
      have hle := fp h' hk b hb
      exact I1.fpOk hle (I1.hok.fresh hle)
end L2
namespace Pu
open PySem PySem.Spec L2
open PyProof.Rows hiding St
section
variable {X : Cx} {T : Tx} {W : WX}
theorem sgnD_len (z : Str) : (sgnD z).length = z.cps.size := by simp [sgnD]
theorem wk_enS {F : Addr → Prop} {H : Hp} (z : Str) : Wk T F H (Ies z) (enL 0 (sgnD z)) where
  go := fun F' H' i _ k hi => by rw [enL_len, sgnD_len] at hi; exact hi
  stop := fun F' H' _ k => by rw [enL_len, sgnD_len]; exact rfl
  yld := fun g F' H' σ env i x H'' hf k S y hi => by
    obtain ⟨p, c, rfl, hp, rfl, hc⟩ := y
    obtain ⟨F'', S', E', r'⟩ := new_tup S hp (ds := [.int (i : Nat), .str ⟨#[c]⟩]) (.cons (.int _) (.cons (.str _) .nil)) rfl
    refine ⟨F'', _, ?_, S', E', r'⟩
    have e : (sgnD z)[i]? = some (.str ⟨#[c]⟩) := by unfold sgnD; rw [List.getElem?_map, Array.getElem?_toList, hc]; rfl
    rw [enL_get, e, Nat.zero_add]
    rfl
def iEnS (fe : M D) : M (List D) := fun env => (fe env).bind fun d e => match d with
  | .tup ds => .ok (enL 0 ds) e
  | .str z => .ok (enL 0 (sgnD z)) e
  | _ => .bad
theorem PXI.enA {e : Expr} {fe : M D} {p pos tpos : Pos} {elts : List Expr} {kk : Nat} (he : PX X T W e fe) (hm : X.mg "enumerate" = none) (hg : Gl X "enumerate" := by rfl) (hs : starEach [e] X.env = [(false, eval e X.env)] := by rfl) : PXI X T W (.Tuple elts kk tpos) (.Call (.Name "enumerate" p) [e] [] pos) (iEnS fe) := by
  obtain ⟨te, qe, pe⟩ := he.ex
  refine ⟨_, pi_enA hg hm (pa_cons qe pa_nil hs) hs, fun g F H σ env R S G => pe g F H σ env _ S (Goal.bind (fun _ h => h) G fun d e1 F1 H1 σ1 _ hs S1 E1 G1 v r => ?_)⟩
  subst hs
  cases d with
  | tup ds =>
    obtain ⟨a, xs, rfl, ha, ra⟩ := r.tupF
    exact .inl ⟨a, xs, rfl, .inl (ha.kp .refl), G1 F1 H1 σ1 rfl S1 .refl _ (wk_enT ha ra)⟩
  | str z =>
    cases r
    exact .inr ⟨z, rfl, G1 F1 H1 σ1 rfl S1 .refl _ (wk_enS z)⟩
  | _ => exact G1.elim
@[simp] theorem ap_iEnS {fe : M D} {e : En} : iEnS fe e = (fe e).bind fun d e => match d with
  | .tup ds => .ok (enL 0 ds) e
  | .str z => .ok (enL 0 (sgnD z)) e
  | _ => .bad := rfl
@[simp] theorem ap_eLc2 {tg tg1 : MG} {fi fi1 : M (List D)} {tst tst1 : M Bool} {elt : M D} {vs vs1 : List Nat} {e : En} : eLc2 tg fi tst tg1 fi1 tst1 elt vs vs1 e = (fi e).bind fun ds e1 => (lcG tg tst (bdI tg1 fi1 tst1 elt vs1) vs ds [] (wipeE e1 vs)).nox.bind fun acc e => .ok (.lst acc) e := rfl
end
end Pu
/-! d.items() of a dict whose keys are tuples -/
namespace L2
open PySem PySem.Spec PyProof.Rows
theorem pairedGet {α β : Type} {R : α → β → Prop} : ∀ {xs : List α} {ys : List β} {i : Nat} {x : α}, Paired R xs ys → xs[i]? = some x → ∃ y, ys[i]? = some y ∧ R x y
  | _, _, 0, _, .cons r _, e => by cases e; exact ⟨_, rfl, r⟩
  | _, _, i + 1, _, .cons _ t, e => pairedGet (i := i) t e
  | _, _, _, _, .nil, e => by cases e
theorem frzT {X : Cx} {pins : List (Addr × Obj)} {σ : St} {H : Hp} {s : Shared} {d : Addr} {o : Obj} {kvs : List (List Key × V)} (I : Inv X pins σ H s) (hd : H d = some (.frz o (.dT kvs))) :
    (d == sysModules) = false ∧ s.heap.get? d = some o ∧ o.ExactDict ∧ ∃ es ep, o.data = .dict es ep ∧ es.size = kvs.length ∧ kvs.length ≤ sizeLine ∧
      ∀ (i : Nat) (hi : i < es.size), ∃ k v b u, kvs[i]? = some (k, v) ∧ es[i].key = .ref b ∧ es[i].val = u ∧ H b = some (.tup (k.map kV)) ∧ RelV v u := by
  obtain ⟨h1, _⟩ := I.hok d _ hd
  obtain ⟨z, hs, xs, pr, dd⟩ := dt_rd I.hok (.inr ⟨o, hd⟩)
  obtain ⟨es, ep, ⟨o2, g1, g2, g3⟩, g4, g5⟩ := dd.raw
  rw [h1] at g1
  cases g1
  have ln := pr.length
  refine ⟨hs, h1, g2, es, ep, g3, g4.trans ln.symm, z, fun i hi => ?_⟩
  obtain ⟨y, e1, e2, e3, _⟩ := g5 i hi
  have hk : i < kvs.length := by omega
  obtain ⟨y', e4, e5, e6, e7⟩ := pairedGet pr (List.getElem?_eq_getElem hk)
  rw [e1] at e4
  cases e4
  exact ⟨kvs[i].1, kvs[i].2, y.2.1, y.2.2, List.getElem?_eq_getElem hk, e2, e3, e6, e7⟩
/-- the entries of a locked dict, each a new pair -/
def Itit (d : Addr) (o : Obj) (kvs : List (List Key × V)) : It :=
  ⟨fun i H => H d = some (.frz o (.dT kvs)) ∧ i < kvs.length, fun i H x H' => ∃ T k v q, kvs[i]? = some (k, v) ∧ x = .ref T ∧ H T = none ∧ H q = some (.tup (k.map kV)) ∧ H' = upd H T (.tup [.ref q, v]), fun i H => H d = some (.frz o (.dT kvs)) ∧ kvs.length ≤ i⟩
theorem turn_itT {P : Program} {w : World} {K : PySem.W.Frag} {d : Addr} {o : Obj} {es : Array DictEntry} {ep : Nat} {kvs : List (List Key × V)} {elts : List Expr} {kk : Nat} {tpos : Pos} (it : Addr) (hdt : o.data = .dict es ep) :
    Turn P w K (.Tuple elts kk tpos) (Itit d o kvs) [it] it (fun i h => ∃ ok ov, IsItemIter h it d i kvs.length ep ok ov) where
  mem := by simp
  obj := fun i h st b hb => by
    obtain ⟨ok, ov, he⟩ := st
    rw [List.mem_singleton.mp hb]
    exact ⟨_, he, fun v q => nomatch q⟩
  keep := fun i h h' st k => let ⟨ok, ov, he⟩ := st; ⟨ok, ov, k it (by simp) _ he⟩
  item := by
    intro X hP hw hK hc i pins s σ H E I hf st hg
    subst hP hw hK
    obtain ⟨ok, ov, he⟩ := st
    obtain ⟨hd, hlt⟩ := hg
    obtain ⟨a1, a2, a3, es', ep', a4, a5, a6, a7⟩ := frzT I hd
    rw [hdt] at a4
    cases a4
    have hlt' : i < es.size := by omega
    obtain ⟨k, v, b, u, b1, b2, b3, b4, b5⟩ := a7 i hlt'
    have hil : it < s.heap.objs.size := Heap.lt_size he
    refine wpAny_pyNext_items_item_raw (by rw [a5]; exact he) ⟨o, a2, a3, hdt⟩ hlt' fun h' ho hT hsz hk => ?_
    rw [b2, b3] at hT
    refine ⟨_, rfl, wpAny_letOwnedTupleGo_items (s := { s with heap := h' }) ho fun h'' he' sb => ?_⟩
    have hT2 : h''.get? s.heap.objs.size = some { cls := .type "tuple", data := .seq #[.ref b, u] } := (sb.2 _ (Nat.ne_of_gt hil)).trans hT
    have new : ObjOk X.prog X.w (upd H s.heap.objs.size (.tup [.ref b, v])) h'' s.heap.objs.size (.tup [.ref b, v]) :=
      ⟨by show 2 ≤ sizeLine; decide, [.ref b, u], .cons rfl (.cons b5 .nil), ⟨_, hT2, rfl, _, rfl⟩⟩
    have I1 : Inv X pins σ (upd H s.heap.objs.size (.tup [.ref b, v])) { s with heap := h'' } :=
      I.turnedNew (ch := [it]) (fun b ob hb q => (sb.2 b (fun z => hb (by simp [z]))).trans (hk b ob (fun z => hb (by simp [z])) q)) hf (Nat.le_refl _) new
    refine ⟨.ref s.heap.objs.size, _, I1, rfl, ⟨_, k, v, b, b1, rfl, I.hok.fresh (Nat.le_refl _), b4, rfl⟩, ⟨_, _, by rw [← a5]; exact he'⟩, fun b hb => ?_⟩
    rw [List.mem_singleton.mp hb, upd_ne (Nat.ne_of_lt hil)]
    exact (hf it (by simp)).1
  done := by
    intro X hP hw hK hc i pins s σ H E I hf st hg
    subst hP hw hK
    obtain ⟨ok, ov, he⟩ := st
    obtain ⟨hd, hlt⟩ := hg
    obtain ⟨a1, a2, a3, es', ep', a4, a5, a6, a7⟩ := frzT I hd
    rw [hdt] at a4
    cases a4
    obtain ⟨f0, f1, f2, f3, f4, f5⟩ := hf it (by simp)
    exact wpAny_pyNext_items_end_raw (I.ok.hd hc) (by rw [a5]; exact he) ⟨o, a2, a3, hdt⟩ (by omega) fun h' eb => ⟨rfl, I.turned (t' := s.toks) (fun b o hb q => eb b o hb q) f0 f1 f3 f4 f5⟩
  self := fun A i s Q E st h => let ⟨_, _, he⟩ := st; wpAny_pyIter_itemiter he h
def iItemsT (td : TE) : TI := fun σ H R => td σ H fun x H1 => ∃ d o kvs, x = .ref d ∧ H1 d = some (.frz o (.dT kvs)) ∧ R (Itit d o kvs) H1
theorem pi_itemsT {X : Cx} {e : Expr} {td : TE} {apos cpos : Pos} {elts : List Expr} {kk : Nat} {tpos : Pos} (he : PE X e td) (hbase : attributeBase e "items" X.env (eval e X.env) = eval e X.env := by rfl) (hline : (apos.endLine == cpos.line) = true := by rfl) :
    PI X (.Tuple elts kk tpos) (.Call (.Attribute e "items" apos) [] [] cpos) (iItemsT td) := by
  refine ⟨fun pins s σ H R I h => ?_⟩
  refine wpAny_Call_method hbase rfl hline F.plainAttrs_dict F.slot_dict_items F.type_dict_items (thn (he.run pins s σ H _ I h) fun u s1 ⟨x, H1, I1, rx, d, o, kvs, ex, hd, q⟩ => ?_)
  subst ex
  cases rx
  obtain ⟨a1, a2, a3, es, ep, a4, a5, a6, a7⟩ := frzT I1 hd
  have ht : s1.TypeIs (.ref d) "dict" := ⟨o, a2, a3.1⟩
  refine ⟨ht, fun a ea => by cases ea; exact ⟨o, a2, a3.2.1⟩, ?_⟩
  refine method_meetsIn F.slot_dict_items F.entry_dict_items rfl (PyProof.Rows.evalArgs_none ⟨rfl, ht, F.args_dict_items_1 _, _, meets_dict_items_raw d a1, ⟨es, ep, o, a2, a3, a4⟩, ?_⟩)
  have hz : (s1.heap.push { cls := .type "dict_items", data := .fields #[.ref d] }).get? d = some o := Heap.get?_push_of_some _ a2
  have I2 : Inv X pins σ H1 { s1 with heap := s1.heap.push { cls := .type "dict_items", data := .fields #[.ref d] } } := I1.kept (t' := s1.toks) fun b ob q => Heap.get?_push_of_some _ q
  refine wpAny_pyIter_items_raw (d := d) (es := es) (ep := ep) ⟨_, Heap.get?_push_size _ rfl, rfl, rfl⟩ ⟨o, hz, a3, a4⟩ ?_
  exact pi_one I2 _ (turn_itT _ a4) ⟨_, _, by rw [← a5]; exact Heap.get?_push_size _ rfl⟩ q
end L2
/-! ## for k in d, for k, v in d.items(): the dict is locked -/
namespace L2
open PySem PySem.Spec PyProof.Rows
theorem ps_or {X : Cx} {st : Stmt} {t1 t2 : TS} (h1 : PS X st t1) (h2 : PS X st t2) : PS X st (fun D σ H => t1 D σ H ∨ t2 D σ H) := ⟨fun pins s σ H D I h => h.elim (h1.run pins s σ H D I) (h2.run pins s σ H D I)⟩
end L2
namespace Pu
open PySem PySem.Spec L2
open PyProof.Rows hiding St
section
variable {X : Cx} {T : Tx} {W : WX} {g : G} {F F' : Addr → Prop} {H H' : Hp} {σ σ' : St} {env env' : En} {a : Addr} {od : Obj} {xs : List (List Key × V)}
abbrev G.lockZ (g : G) (a : Addr) : G := ⟨g.F0, g.H0, g.W, fun b => g.L b ∨ b = a, fun b => g.Z b ∨ b = a⟩
theorem kp_lock (ha : H a = some (.dT xs)) (od : Obj) : Kp F H (upd H a (.frz od (.dT xs))) := by
  refine ⟨fun b u _ n r => ?_, fun b u _ n e => ?_, fun b ys e => ?_⟩
  · by_cases c : b = a
    · subst c
      rcases r with e | ⟨o, e⟩
      · rw [ha] at e; cases e; exact .inr ⟨od, upd_same⟩
      · rw [ha] at e; cases e
    · rcases r with e | ⟨o, e⟩
      · exact .inl (by rw [upd_ne c]; exact e)
      · exact .inr ⟨o, by rw [upd_ne c]; exact e⟩
  · by_cases c : b = a
    · subst c
      rw [ha] at e; cases e; exact (show False from n).elim
    · rw [upd_ne c]; exact e
  · by_cases c : b = a
    · subst c
      rw [ha] at e; cases e
    · rw [upd_ne c]; exact e
theorem kp_unlock (ha : H a = some (.frz od (.dT xs))) : Kp F H (upd H a (.dT xs)) := by
  refine ⟨fun b u _ n r => ?_, fun b u _ n e => ?_, fun b ys e => ?_⟩
  · by_cases c : b = a
    · subst c
      rcases r with e | ⟨o, e⟩
      · rw [ha] at e; cases e; exact (show False from n).elim
      · rw [ha] at e; cases e; exact .inl upd_same
    · rcases r with e | ⟨o, e⟩
      · exact .inl (by rw [upd_ne c]; exact e)
      · exact .inr ⟨o, by rw [upd_ne c]; exact e⟩
  · by_cases c : b = a
    · subst c
      rw [ha] at e; cases e; exact (show False from n).elim
    · rw [upd_ne c]; exact e
  · by_cases c : b = a
    · subst c
      rw [ha] at e; cases e
    · rw [upd_ne c]; exact e
theorem upd_there {o : HO} (b : Addr) (h : ∃ u, H b = some u) : ∃ u, upd H a o b = some u := by
  by_cases c : b = a
  · subst c; exact ⟨o, upd_same⟩
  · rw [upd_ne c]; exact h
theorem neF {F : Addr → Prop} {a b : Addr} (f : ¬ F b) (fa : F a) : b ≠ a := fun z => f (by rw [z]; exact fa)
theorem St8.lockZ (S : St8 T g F H σ env) (fa : F a) (ha : H a = some (.dT xs)) (od : Obj) : St8 T (g.lockZ a) F (upd H a (.frz od (.dT xs))) σ env := by
  have K : Kp F H (upd H a (.frz od (.dT xs))) := kp_lock ha od
  refine ⟨S.len, fun i s e => ?_, S.dis, fun b h => upd_there b (S.fdom b h), S.fnew, fun b h => ?_, fun i b h => upd_there b (S.wdom i b h), fun b h => ?_, fun b o h w z => ?_⟩
  · cases S.sl i s e with
    | no => exact .no
    | hd h r => exact .hd h (r.mono (fun _ h => h) K)
    | val h1 h2 => exact .val h1 (h2.mono (fun _ h => h) K)
    | own h f l w c =>
      exact .own h f (fun z => z.elim l (neF f fa)) w (c.mono (fun _ h => h) K fun o ho => by rw [upd_ne (neF f fa)]; exact ho)
    | io h f l w c =>
      exact .io h f (fun z => z.elim l (neF f fa)) w (c.mono (fun _ h => h) K fun o ho => by rw [upd_ne (neF f fa)]; exact ho)
  · rcases h with h | h
    · exact upd_there b (S.ldom b h)
    · rw [h]; exact ⟨_, upd_same⟩
  · rcases h with h | h
    · exact upd_there b (S.zdom b h)
    · rw [h]; exact ⟨_, upd_same⟩
  · rw [upd_ne (fun q => z (.inr q))]
    exact S.keep b o h w fun q => z (.inl q)
theorem St8.unlockZ (S : St8 T (g.lockZ a) F' H' σ' env') (h : H' a = some (.frz od (.dT xs))) (fa : F' a) (hk : ∀ o, g.H0 a = some o → (∀ i, ¬ g.W i a) → ¬ g.Z a → HO.dT xs = o) : St8 T g F' (upd H' a (.dT xs)) σ' env' := by
  have K : Kp F' H' (upd H' a (.dT xs)) := kp_unlock h
  refine ⟨S.len, fun i s e => ?_, S.dis, fun b h => upd_there b (S.fdom b h), S.fnew, fun b h => upd_there b (S.ldom b (.inl h)), fun i b h => upd_there b (S.wdom i b h), fun b h => upd_there b (S.zdom b (.inl h)), fun b o h0 w z => ?_⟩
  · cases S.sl i s e with
    | no => exact .no
    | hd h r => exact .hd h (r.mono (fun _ h => h) K)
    | val h1 h2 => exact .val h1 (h2.mono (fun _ h => h) K)
    | own h f l w c =>
      exact .own h f (fun z => l (.inl z)) w (c.mono (fun _ h => h) K fun o ho => by rw [upd_ne (neF f fa)]; exact ho)
    | io h f l w c =>
      exact .io h f (fun z => l (.inl z)) w (c.mono (fun _ h => h) K fun o ho => by rw [upd_ne (neF f fa)]; exact ho)
  · by_cases c : b = a
    · subst c
      rw [upd_same, hk o h0 w z]
    · rw [upd_ne c]
      exact S.keep b o h0 w fun q => q.elim z c
theorem ext_unlock (E : Ext (g.lockZ a) F (upd H a (.frz od (.dT xs))) F' H') (ha : H a = some (.dT xs)) (h : H' a = some (.frz od (.dT xs))) : Ext g F H F' (upd H' a (.dT xs)) := by
  refine ⟨E.f, fun b hb h => E.l b (.inl hb) h, (kp_lock ha od).trans (fun _ h => h) (E.k.trans E.f (kp_unlock h)), fun b o hl e => ?_⟩
  by_cases c : b = a
  · subst c
    rw [ha] at e
    cases e
    exact upd_same
  · rw [upd_ne c]
    exact E.lk b o (.inl hl) (by rw [upd_ne c]; exact e)
/-- the ends of what runs under the lock -/
def lockE (a : Addr) (od : Obj) (xs : List (List Key × V)) (D : Ends) : Ends :=
  { nx := fun σ' H' => H' a = some (.frz od (.dT xs)) ∧ D.nx σ' (upd H' a (.dT xs))
    rt := fun v H' => H' a = some (.frz od (.dT xs)) ∧ D.rt v (upd H' a (.dT xs))
    bk := fun σ' H' => H' a = some (.frz od (.dT xs)) ∧ D.bk σ' (upd H' a (.dT xs))
    ct := fun σ' H' => H' a = some (.frz od (.dT xs)) ∧ D.ct σ' (upd H' a (.dT xs)) }
theorem lock_goal {o : Out Fl} {E : Ends} (S : St8 T g F H σ env) (fa : F a) (ha : H a = some (.dT xs)) (od : Obj) (G : SGo T g W F H E o.nox) : SGo T (g.lockZ a) W F (upd H a (.frz od (.dT xs))) (lockE a od xs E) o := by
  cases o with
  | bad => exact G
  | exc x e => exact (show False from G).elim
  | ok fl env' =>
    intro F' H' σ' hs S' E'
    have h : H' a = some (.frz od (.dT xs)) := E'.lk a _ (.inr rfl) upd_same
    have fa' := E'.f a fa
    have S2 := S'.unlockZ h fa' fun o h0 w z => by
      have := S.keep a o h0 w z
      rw [ha] at this
      cases this
      rfl
    have E2 := ext_unlock E' ha h
    have P : FlP T g E F' (upd H' a (.dT xs)) σ' env' fl := G F' _ σ' trivial S2 E2
    have K : Kp F' H' (upd H' a (.dT xs)) := kp_unlock h
    cases fl with
    | nx => exact ⟨h, P⟩
    | brk => exact ⟨h, P⟩
    | cnt => exact ⟨h, P⟩
    | ret d => exact fun v r => ⟨h, P v (r.mono (fun _ h => h) K)⟩
    | retO d => exact fun v ⟨b, ev, n1, n2, n3, n4, c⟩ => ⟨h, P v ⟨b, ev, n1, fun z => n2 (.inl z), n3, n4, c.mono (fun _ h => h) K fun o ho => by rw [upd_ne (neF n1 fa')]; exact ho⟩⟩
theorem more_goal {o : Out Fl} {E : Ends} (G : SGo T g W F H E o) : SGo T (g.more a) W F H E o := by
  cases o with
  | bad => exact G
  | exc x e => exact fun F' H' σ' dd hs S' E' r => G F' H' σ' dd hs S'.less.1 E'.less r
  | ok fl env' =>
    intro F' H' σ' hs S' E'
    have P : FlP T g E F' H' σ' env' fl := G F' H' σ' hs S'.less.1 E'.less
    cases fl with
    | retO d => exact fun v ⟨b, ev, n1, n2, n3, n4, c⟩ => P v ⟨b, ev, n1, fun z => n2 (.inl z), n3, n4, c⟩
    | _ => exact P
/-- a walk over a locked dict -/
structure WkD (T : Tx) (F1 : Addr → Prop) (H1 : Hp) (a : Addr) (J : It) (ds : List D) : Prop where
  go : ∀ (F' : Addr → Prop) (H' : Hp) (i : Nat), (∀ b, F1 b → F' b) → Kp F1 H1 H' → H' a = H1 a → i < ds.length → J.go i H'
  stop : ∀ (F' : Addr → Prop) (H' : Hp), (∀ b, F1 b → F' b) → Kp F1 H1 H' → H' a = H1 a → J.stop ds.length H'
  yld : ∀ (g : G) (F' : Addr → Prop) (H' : Hp) (σ : St) (env : En) (i : Nat) (x : V) (H'' : Hp), (∀ b, F1 b → F' b) → Kp F1 H1 H' → St8 T g F' H' σ env → J.yld i H' x H'' → i < ds.length → ∃ F'' d, ds[i]? = some d ∧ St8 T g F'' H'' σ env ∧ Ext g F' H' F'' H'' ∧ Rep T F'' H'' d x
theorem for_coreD {tt : TG} {tb : TS} {ft : MG} {fb : M Fl} (pt : ∀ g F H σ env d v Q env', St8 T g F H σ env → Rep T F H d v → ft d env = some env' → (∀ σ', St8 T g F H σ' env' → Q σ' H) → tt v σ H Q)
    (pb : ∀ g F H σ env E, St8 T g F H σ env → SGo T g W F H E (fb env) → tb E σ H) {F1 : Addr → Prop} {H1 : Hp} {σ1 : St} {e1 : En} {J : It} {ds : List D} {E : Ends} {o : HO} (hl : g.L a) (ha : H1 a = some o) (wk : WkD T F1 H1 a J ds) (S1 : St8 T g F1 H1 σ1 e1) (G1 : SGo T g W F1 H1 E (forL ft fb ds e1)) :
    ∃ W : Nat → Nat → St → Hp → Prop, (∃ m, W 0 m σ1 H1) ∧ ∀ (i m : Nat) (σ : St) (H : Hp), W i m σ H → (J.stop i H ∧ E.nx σ H) ∨ (J.go i H ∧ ∃ N : St → Hp → Prop, (∀ σ' H', N σ' H' → ∃ m', m' < m ∧ W (i + 1) m' σ' H') ∧ ∀ x H', J.yld i H x H' → tt x σ H' fun σ2 H2 => tb { nx := N, rt := E.rt, bk := E.nx, ct := N } σ2 H2) := by
  refine ⟨fun i m σ' H' => m = ds.length - i ∧ i ≤ ds.length ∧ ∃ F' env', St8 T g F' H' σ' env' ∧ Ext g F1 H1 F' H' ∧ SGo T g W F' H' E (forL ft fb (ds.drop i) env'), ⟨ds.length, by simp, Nat.zero_le _, F1, e1, S1, .refl, G1⟩, ?_⟩
  rintro i m σ' H' ⟨rfl, hi, F', env', S', E', G'⟩
  have hk : H' a = H1 a := by rw [ha]; exact E'.lk a _ hl ha
  by_cases hlt : i < ds.length
  · refine .inr ⟨wk.go F' H' i E'.f E'.k hk hlt, fun σ2 H2 => ∃ m', m' < ds.length - i ∧ (m' = ds.length - (i + 1) ∧ i + 1 ≤ ds.length ∧ ∃ F2 env2, St8 T g F2 H2 σ2 env2 ∧ Ext g F1 H1 F2 H2 ∧ SGo T g W F2 H2 E (forL ft fb (ds.drop (i + 1)) env2)), fun _ _ z => z, fun x H2 y => ?_⟩
    obtain ⟨F2, d, hd, S2, E2, r2⟩ := wk.yld g F' H' σ' env' i x H2 E'.f E'.k S' y hlt
    have ed : ds.drop i = d :: ds.drop (i + 1) := by
      rw [List.getElem?_eq_getElem hlt] at hd
      rw [List.drop_eq_getElem_cons hlt, Option.some.inj hd]
    rw [ed] at G'
    have G' : SGo T g W F' H' E (forL ft fb (d :: ds.drop (i + 1)) env') := G'
    unfold forL at G'
    cases et : ft d env' with
    | none => simp only [et] at G'; exact G'.elim
    | some e2 =>
      simp only [et] at G'
      refine pt g F2 H2 σ' env' d x _ e2 S2 r2 et fun σ3 S3 => ?_
      refine pb g F2 H2 σ3 e2 _ S3 (Goal.bind (fun _ h => h) (Goal.ext G' E2) fun fl e3 F3 H3 σ4 _ _ S4 E4 G4 => ?_)
      have step : SGo T g W F3 H3 E (forL ft fb (ds.drop (i + 1)) e3) → ∃ m', m' < ds.length - i ∧ (m' = ds.length - (i + 1) ∧ i + 1 ≤ ds.length ∧ ∃ F2 env2, St8 T g F2 H3 σ4 env2 ∧ Ext g F1 H1 F2 H3 ∧ SGo T g W F2 H3 E (forL ft fb (ds.drop (i + 1)) env2)) := fun q =>
        ⟨_, by omega, rfl, hlt, F3, e3, S4, (E'.trans E2).trans E4, q⟩
      cases fl with
      | nx => exact step G4
      | cnt => exact step G4
      | brk => exact G4 F3 H3 σ4 trivial S4 .refl
      | ret d => exact G4 F3 H3 σ4 trivial S4 .refl
      | retO d => exact G4 F3 H3 σ4 trivial S4 .refl
  · have e : i = ds.length := by omega
    subst e
    rw [List.drop_length] at G'
    exact .inl ⟨wk.stop F' H' E'.f E'.k hk, G' F' H' σ' trivial S' .refl⟩
theorem RepT.at : ∀ {kvs : List (List Key × D)} {xs : List (List Key × V)} {i : Nat} {k : List Key} {v : V}, RepT T F H kvs xs → xs[i]? = some (k, v) → ∃ d, kvs[i]? = some (k, d) ∧ Rep T F H d v
  | _, _, 0, _, _, .cons r _, e => by cases e; exact ⟨_, rfl, r⟩
  | _, _, i + 1, _, _, .cons _ t, e => RepT.at (i := i) t e
  | _, _, _, _, _, .nil, e => by cases e
theorem RepT.len : ∀ {kvs : List (List Key × D)} {xs : List (List Key × V)}, RepT T F H kvs xs → kvs.length = xs.length
  | _, _, .nil => rfl
  | _, _, .cons _ t => congrArg (· + 1) (RepT.len t)
def itemsK (kvs : List (List Key × D)) : List D := kvs.map fun p => .tup [keyD p.1, p.2]
def keysK (kvs : List (List Key × D)) : List D := kvs.map fun p => keyD p.1
theorem evish_item (k : List Key) (d : D) : evish [keyD k, d] = false := by
  have : evD (keyD k) = false := by
    cases k with
    | nil => rfl
    | cons k ks => cases k <;> (cases ks with | nil => rfl | cons k2 ks => cases ks <;> rfl)
  unfold evish
  rw [List.all_cons, this]
  simp
theorem wk_itemsK {kvs : List (List Key × D)} (ha : H a = some (.frz od (.dT xs))) (r : RepT T F H kvs xs) : WkD T F H a (Itit a od xs) (itemsK kvs) where
  go := fun F' H' i _ k hk hi => ⟨by rw [hk]; exact ha, by unfold itemsK at hi; rw [List.length_map, r.len] at hi; exact hi⟩
  stop := fun F' H' _ k hk => ⟨by rw [hk]; exact ha, by unfold itemsK; rw [List.length_map, r.len]; exact Nat.le_refl _⟩
  yld := fun g F' H' σ env i x H'' hf k S y hi => by
    obtain ⟨p, kk, v, q, h1, rfl, hp, hq, rfl⟩ := y
    obtain ⟨d, h2, rv⟩ := r.at h1
    obtain ⟨F'', S', E', r'⟩ := new_tup S hp (ds := [keyD kk, d]) (.cons (rep_keyD hq) (.cons (rv.mono hf k) .nil)) (evish_item kk d)
    exact ⟨F'', _, by unfold itemsK; rw [List.getElem?_map, h2]; rfl, S', E', r'⟩
theorem wk_keysK {kvs : List (List Key × D)} (ha : H a = some (.frz od (.dT xs))) (r : RepT T F H kvs xs) : WkD T F H a (Itkt a od xs) (keysK kvs) where
  go := fun F' H' i _ k hk hi => ⟨by rw [hk]; exact ha, by unfold keysK at hi; rw [List.length_map, r.len] at hi; exact hi⟩
  stop := fun F' H' _ k hk => ⟨by rw [hk]; exact ha, by unfold keysK; rw [List.length_map, r.len]; exact Nat.le_refl _⟩
  yld := fun g F' H' σ env i x H'' hf k S y hi => by
    obtain ⟨rfl, kk, v, q, h1, rfl, hq⟩ := y
    obtain ⟨d, h2, rv⟩ := r.at h1
    exact ⟨F', _, by unfold keysK; rw [List.getElem?_map, h2]; rfl, S, .refl, rep_keyD hq⟩
/-- a slot that holds a dict: it stays as it is from now on -/
theorem slot_dct {i : Nat} {kvs : List (List Key × D)} {e1 : En} (S : St8 T g F H σ env) (h : eVar i env = .ok (.dct kvs) e1) : ∃ F1 a xs, St8 T g F1 H σ e1 ∧ Ext g F H F1 H ∧ look σ i = some (.ref a) ∧ F1 a ∧ Rd H a (.dT xs) ∧ RepT T F1 H kvs xs := by
  unfold eVar at h
  cases e : env[i]? with
  | none => rw [e] at h; cases h
  | some s =>
    rw [e] at h
    have r := S.sl i s e
    have hi : i < env.length := (List.getElem?_eq_some_iff.mp e).1
    cases s with
    | no => cases h
    | hd => cases h
    | val d =>
      cases h
      obtain ⟨x, h1, h2⟩ := r.cases_val
      cases h2 with
      | dct fa ha ra => exact ⟨F, _, _, S, .refl, h1, fa, ha, ra⟩
    | own d =>
      cases h
      cases r with
      | own e1 n1 n2 n3 c =>
        rename_i a
        obtain ⟨o, ho, _⟩ := c.there
        have S1 := S.drop i
        have nr : ¬ Roots σ (env.set i .no) a := by
          rintro ⟨j, t, q, ht, l⟩
          by_cases z : j = i
          · subst z; rw [List.getElem?_set_self hi] at q; cases q; cases ht
          · rw [List.getElem?_set_ne (Ne.symm z)] at q
            exact S.dis i j _ t a (Ne.symm z) e q rfl ht e1 l
        obtain ⟨S2, E2⟩ := S1.freeze ⟨o, ho⟩ n3 n2 nr
        have rp := (c.mono E2.f E2.k fun _ h => h).rep (.inr rfl)
        have S3 := S2.sign i (.val (.dct kvs)) (by rw [List.length_set]; exact hi) (.val e1 rp) (fun z => by cases z)
        rw [List.set_set] at S3
        cases rp with
        | dct fa ha ra => exact ⟨_, _, _, S3, E2, e1, fa, ha, ra⟩
    | io d => cases h
def sForD (i : Nat) (sel : List (List Key × D) → List D) (ft : MG) (fb : M Fl) : M Fl := fun env => (eVar i env).bind fun d e1 => match d with
  | .dct kvs => (forL ft fb (sel kvs) e1).nox
  | _ => .bad
theorem forD_core (i : Nat) {tg iter : Expr} {body : List Stmt} {ft : MG} {fb : M Fl} {pos : Pos} {wi : TI} {sel : List (List Key × D) → List D} {JJ : Addr → Obj → List (List Key × V) → It} (hp : PassesOwn (model X.prog X.w) X.A X.env X.xe) (hc : X.calm = true) (qi : PI X tg iter wi)
    (hwi : ∀ σ H R a od xs, look σ i = some (.ref a) → H a = some (.frz od (.dT xs)) → R (JJ a od xs) H → wi σ H R)
    (hwk : ∀ {F H a od xs kvs}, H a = some (.frz od (.dT xs)) → RepT T F H kvs xs → WkD T F H a (JJ a od xs) (sel kvs))
    (ht : PXG X T tg ft) (hb : PXSs X T W body fb) (hs : ∀ x, foldedSetIterable iter X.env x = pure x) : PXS X T W (.For tg iter body [] pos) (sForD i sel ft fb) := by
  obtain ⟨tt, qt, pt⟩ := ht.ex
  obtain ⟨tb, qb, pb⟩ := hb.ex
  refine ⟨_, ps_or (ps_lock (ps_for hp hc qi qt qb hs)) (ps_for hp hc qi qt qb hs), fun g F H σ env E S G => ?_⟩
  unfold sForD at G
  cases ev : eVar i env with
  | bad => rw [ev] at G; exact G.elim
  | exc x e =>
    unfold eVar at ev
    split at ev <;> cases ev
  | ok d e1 =>
    rw [ev] at G
    cases d with
    | dct kvs =>
      have G : SGo T g W F H E (forL ft fb (sel kvs) e1).nox := G
      obtain ⟨F1, a, xs, S1, E1, l, fa, ha, ra⟩ := slot_dct S ev
      have G1 := Goal.ext G E1
      rcases ha with ha | ⟨od, ha⟩
      · refine .inl ⟨a, .dT xs, ha, trivial, fun od => ?_⟩
        refine hwi _ _ _ a od xs l upd_same ?_
        exact for_coreD pt pb (g := g.lockZ a) (a := a) (.inr rfl) upd_same (hwk upd_same (ra.mono (fun _ h => h) (kp_lock ha od))) (S1.lockZ fa ha od) (lock_goal S1 fa ha od G1)
      · refine .inr ?_
        refine hwi _ _ _ a od xs l ha ?_
        have nr : ¬ Roots σ e1 a := fun r => (S1.roots r).1 fa
        refine for_coreD pt pb (g := g.more a) (a := a) (.inr rfl) ha (hwk ha ra) (S1.more ⟨_, ha⟩ nr) (more_goal ?_)
        cases o : forL ft fb (sel kvs) e1 with
        | bad => rw [o] at G1; exact G1
        | exc x e => rw [o] at G1; exact (show False from G1).elim
        | ok fl e => rw [o] at G1; exact G1
    | _ => exact G.elim
theorem PXS.forItems (i : Nat) {x : Str} {elts : List Expr} {kk : Nat} {tpos p apos cpos : Pos} {body : List Stmt} {ft : MG} {fb : M Fl} {pos : Pos} (hp : PassesOwn (model X.prog X.w) X.A X.env X.xe) (hc : X.calm = true) (ht : PXG X T (.Tuple elts kk tpos) ft) (hb : PXSs X T W body fb)
    (hN : X.N[i]? = some x := by rfl) (hv : Vis X.env.scope x := by first | exact Or.inl rfl | exact Or.inr (Or.inl rfl) | exact Or.inr (Or.inr rfl)) (hd : (x == ("__debug__" : Str)) = false := by decide) (hcd : (x == ("__classdict__" : Str)) = false := by decide)
    (hbase : attributeBase (.Name x p) "items" X.env (eval (.Name x p) X.env) = eval (.Name x p) X.env := by rfl) (hline : (apos.endLine == cpos.line) = true := by rfl)
    (hs : ∀ x', foldedSetIterable (.Call (.Attribute (.Name x p) "items" apos) [] [] cpos) X.env x' = pure x' := by intro _; rfl) : PXS X T W (.For (.Tuple elts kk tpos) (.Call (.Attribute (.Name x p) "items" apos) [] [] cpos) body [] pos) (sForD i itemsK ft fb) :=
  forD_core i hp hc (pi_itemsT (pe_var hN hv hd hcd) hbase hline) (JJ := Itit) (fun σ H R a od xs l h r => ⟨.ref a, look_eq l, a, od, xs, rfl, h, r⟩) (fun h r => wk_itemsK h r) ht hb hs
theorem PXS.forKeys (i : Nat) {x : Str} {tg : Expr} {p : Pos} {body : List Stmt} {ft : MG} {fb : M Fl} {pos : Pos} (hp : PassesOwn (model X.prog X.w) X.A X.env X.xe) (hc : X.calm = true) (ht : PXG X T tg ft) (hb : PXSs X T W body fb)
    (hN : X.N[i]? = some x := by rfl) (hv : Vis X.env.scope x := by first | exact Or.inl rfl | exact Or.inr (Or.inl rfl) | exact Or.inr (Or.inr rfl)) (hd : (x == ("__debug__" : Str)) = false := by decide) (hcd : (x == ("__classdict__" : Str)) = false := by decide)
    (hs : ∀ x', foldedSetIterable (.Name x p) X.env x' = pure x' := by intro _; rfl) : PXS X T W (.For tg (.Name x p) body [] pos) (sForD i keysK ft fb) :=
  forD_core i hp hc (pi_keys (pe_var hN hv hd hcd)) (JJ := Itkt) (fun σ H R a od xs l h r => ⟨.ref a, look_eq l, a, od, rfl, .inr ⟨xs, h, r⟩⟩) (fun h r => wk_keysK h r) ht hb hs
@[simp] theorem ap_sForD {i : Nat} {sel : List (List Key × D) → List D} {ft : MG} {fb : M Fl} {e : En} : sForD i sel ft fb e = (eVar i e).bind fun d e1 => match d with
  | .dct kvs => (forL ft fb (sel kvs) e1).nox
  | _ => .bad := rfl
end
end Pu
/-! ## dict(t) of a tuple of pairs, keys tuples, all different -/
namespace L2
open PySem PySem.Spec PyProof.Rows
theorem stored_new {K : Type} [DecidableEq K] : ∀ (xs acc : List (K × Addr × Value)), ((acc ++ xs).map (·.1)).Nodup → storedAllH acc xs = acc ++ xs
  | [], acc, _ => by simp [storedAllH]
  | x :: xs, acc, h => by
    have h1 : x.1 ∉ acc.map (·.1) := fun z => by
      rw [List.map_append, List.map_cons] at h
      exact (List.nodup_append.mp h).2.2 _ z _ List.mem_cons_self rfl
    have h2 : atKey acc x.1 = none := by
      unfold atKey
      rw [List.find?_eq_none.mpr]
      · rfl
      · intro y hy e
        exact h1 (List.mem_map.mpr ⟨y, hy, by simpa using e⟩)
    have h3 : storedH acc x.1 x.2.1 x.2.2 = acc ++ [x] := by
      unfold storedH
      rw [h2]
      rfl
    show storedAllH (storedH acc x.1 x.2.1 x.2.2) xs = _
    rw [h3, stored_new xs (acc ++ [x]) (by rw [List.append_assoc]; exact h), List.append_assoc]
    rfl
theorem paired_of {α β : Type} {P : α → β → Prop} : ∀ {es : List α}, (∀ e ∈ es, ∃ u, P e u) → ∃ xs, Paired P es xs
  | [], _ => ⟨[], .nil⟩
  | e :: es, h => by
    obtain ⟨u, hu⟩ := h e List.mem_cons_self
    obtain ⟨xs, hx⟩ := paired_of fun x hx => h x (List.mem_cons_of_mem _ hx)
    exact ⟨u :: xs, .cons hu hx⟩
theorem paired_back {α β : Type} {R : α → β → Prop} : ∀ {xs : List α} {ys : List β} {i : Nat} {y : β}, Paired R xs ys → ys[i]? = some y → ∃ x, xs[i]? = some x ∧ R x y
  | _, _, 0, _, .cons r _, e => by cases e; exact ⟨_, rfl, r⟩
  | _, _, i + 1, _, .cons _ t, e => paired_back (i := i) t e
  | _, _, _, _, .nil, e => by cases e
theorem paired_map {α β γ δ : Type} {R : α → β → Prop} {S : γ → δ → Prop} (f : α → γ) (g : β → δ) (h : ∀ a b, R a b → S (f a) (g b)) : ∀ {xs : List α} {ys : List β}, Paired R xs ys → Paired S (xs.map f) (ys.map g)
  | _, _, .nil => .nil
  | _, _, .cons r t => .cons (h _ _ r) (paired_map f g h t)
theorem paired_eq {α β γ : Type} {R : α → β → Prop} (f : α → γ) (g : β → γ) (h : ∀ a b, R a b → f a = g b) : ∀ {xs : List α} {ys : List β}, Paired R xs ys → xs.map f = ys.map g
  | _, _, .nil => rfl
  | _, _, .cons r t => by rw [List.map_cons, List.map_cons, h _ _ r, paired_eq f g h t]
theorem units_in1' (A : Around) : A.in1.units ≤ A.units + 1 := by
  first
    | exact Nat.le_refl _
    | (unfold Around.in1; simp [Around.units])
    | simp [Around.in1, Around.units]
/-- an entry: the pair, the key, where the key stands, the value -/
abbrev Ent := Addr × List Key × Addr × V
def rDictT : List V → Hp → VK → Prop := fun vs H Q => ∃ (a : Addr) (o : Obj) (es : List Ent), vs = [.ref a] ∧ H a = some (.frz o (.tup (es.map fun e => V.ref e.1))) ∧ o.dict = none ∧ o.cls = .type "tuple" ∧
  (∀ e ∈ es, H e.1 = some (.tup [.ref e.2.2.1, e.2.2.2]) ∧ H e.2.2.1 = some (.tup (e.2.1.map kV))) ∧ (es.map fun e => e.2.1).Nodup ∧ ∀ p, H p = none → Q (.ref p) (upd H p (.dT (es.map fun e => (e.2.1, e.2.2.2))))
theorem cr_dictT {X : Cx} (hc : X.calm = true) (hu : X.A.units + 4 < cLine) : CallR X (.type "dict") rDictT := by
  intro pins s σ H vs us Q I r h
  obtain ⟨a, o, es, rfl, ha, nd, nc, he, hk, q⟩ := h
  rw [Vals.ref1 r]
  obtain ⟨g1, hz, its, rv, o2, g2, g3, n, g4⟩ := I.hok a _ ha
  rw [g1] at g2
  cases g2
  rw [List.length_map] at hz
  obtain ⟨xs, px⟩ := paired_of (P := fun (e : Ent) (x : List Key × Addr × Value) => x.1 = e.2.1 ∧ x.2.1 = e.2.2.1 ∧ RelV e.2.2.2 x.2.2 ∧ s.heap.IsTuple e.1 #[.ref e.2.2.1, x.2.2] ∧ e ∈ es) (es := es) fun e hm => by
    obtain ⟨h1, h2⟩ := he e hm
    obtain ⟨_, its', rv', p⟩ := I.hok e.1 _ h1
    cases rv' with
    | cons r1 r2 =>
      cases r2 with
      | cons r2 r3 =>
        cases r3
        cases r1
        exact ⟨(e.2.1, e.2.2.1, _), rfl, rfl, r2, p, hm⟩
  have ln := px.length
  have li := rv.length
  rw [List.length_map] at li
  have hn := I.hok.fresh (Nat.le_refl s.heap.objs.size)
  have xk : xs.map (·.1) = es.map fun e => e.2.1 := (paired_eq (fun e : Ent => e.2.1) (·.1) (fun e x r => r.1.symm) px).symm
  have mem : ∀ x ∈ xs, ∃ e ∈ es, x.1 = e.2.1 ∧ x.2.1 = e.2.2.1 := fun x hx => by
    obtain ⟨i, hi⟩ := List.getElem?_of_mem hx
    obtain ⟨e, e1, e2⟩ := paired_back px hi
    exact ⟨e, List.mem_of_getElem? e1, e2.1, e2.2.1⟩
  refine call_dict_pairsH (knd := tupleKind (mixKind X.prog X.w)) (ps := xs) (PairArg.tuple a its.toArray (fun j => ((es[j]?).map fun e => e.1).getD 0) (xs.map fun x => (Value.ref x.2.1, x.2.2))) (I.ok.hd hc) ?_ ⟨⟨o, n, g1, g3, nd, g4⟩, ?_, fun j k v hj => ?_⟩ ⟨by rw [List.length_map], fun i key v hr => ?_⟩ (fun h' hk' x hx => ?_) (by rw [List.length_map, ← ln]; exact hz) fun h' tk dh kp => ?_
  · show X.A.in1.in1.units < cLine
    have h1 := units_in1' X.A
    have h2 := units_in1' X.A.in1
    omega
  · rw [List.size_toArray, List.length_map, ← ln, ← li]
  · rw [List.getElem?_map] at hj
    obtain ⟨x, hx, ex⟩ := Option.map_eq_some_iff.mp hj
    cases ex
    obtain ⟨e, e1, e2, e3, e4, e5, _⟩ := paired_back px hx
    obtain ⟨u, u1, u2⟩ := rv.get (i := j) (x := .ref e.1) (by rw [List.getElem?_map, e1]; rfl)
    cases u2
    refine ⟨?_, .inl ?_⟩
    · show its.toArray[j]? = some (Value.ref (((es[j]?).map fun (e : Ent) => e.1).getD 0))
      rw [e1]
      simpa using u1
    · show s.heap.IsTuple (((es[j]?).map fun (e : Ent) => e.1).getD 0) #[.ref x.2.1, x.2.2]
      rw [e1, e3]
      exact e5
  · have hr : (xs.map fun x => (Value.ref x.2.1, x.2.2))[i]? = some (key, v) := hr
    rw [List.getElem?_map] at hr
    obtain ⟨x, hx, ex⟩ := Option.map_eq_some_iff.mp hr
    cases ex
    exact ⟨x.1, x.2.1, hx, rfl⟩
  · obtain ⟨e, hm, e1, e2⟩ := mem x hx
    have I2 : Inv X pins σ H { s with heap := h' } := I.kept (t' := s.toks) fun b u hb => hk' b u (Nat.ne_of_lt (Heap.lt_size hb)) (by simp) hb
    rw [e1, e2]
    exact key_of I2.hok (he e hm).2
  · rw [stored_new xs [] (by rw [List.nil_append, xk]; exact hk), List.nil_append] at dh
    obtain ⟨o', es', ep', d1, d2, d3, d4, _, d5⟩ := dh
    refine ⟨.ref s.heap.objs.size, _, I.laid (t' := tk) (o := .dT (es.map fun e => (e.2.1, e.2.2.2))) (fun b u hb => kp b u (by simp) hb) (Nat.le_refl _) ⟨by rw [List.length_map]; exact hz, beq_eq_false_iff_ne.mpr (Nat.ne_of_gt I.big), xs, ?_, o', es', ep', d1, d2, d3, d4, d5⟩, rfl, q _ hn⟩
    have := paired_map (S := fun (p : List Key × V) (y : List Key × Addr × Value) => p.1 = y.1 ∧ upd H s.heap.objs.size (.dT (es.map fun e => (e.2.1, e.2.2.2))) y.2.1 = some (.tup (p.1.map kV)) ∧ RelV p.2 y.2.2) (fun e : Ent => (e.2.1, e.2.2.2)) id (fun e x ⟨r1, r2, r3, _, hm⟩ => ⟨r1.symm, by
      show upd H s.heap.objs.size _ x.2.1 = _
      rw [r2, upd_ne (fun z => by have := (he e hm).2; rw [z, hn] at this; cases this)]
      exact (he e hm).2, r3⟩) px
    rw [List.map_id] at this
    exact this
def rDictL : List V → Hp → VK → Prop := fun vs H Q => ∃ (a : Addr) (es : List Ent), vs = [.ref a] ∧ H a = some (.lst (es.map fun e => V.ref e.1)) ∧
  (∀ e ∈ es, H e.1 = some (.tup [.ref e.2.2.1, e.2.2.2]) ∧ H e.2.2.1 = some (.tup (e.2.1.map kV))) ∧ (es.map fun e => e.2.1).Nodup ∧ ∀ p, H p = none → Q (.ref p) (upd H p (.dT (es.map fun e => (e.2.1, e.2.2.2))))
theorem cr_dictL {X : Cx} (hc : X.calm = true) (hu : X.A.units + 4 < cLine) : CallR X (.type "dict") rDictL := by
  intro pins s σ H vs us Q I r h
  obtain ⟨a, es, rfl, ha, he, hk, q⟩ := h
  rw [Vals.ref1 r]
  obtain ⟨hz, its, n, rv, hlen, g1⟩ := I.lstM ha
  rw [List.length_map] at hz
  obtain ⟨xs, px⟩ := paired_of (P := fun (e : Ent) (x : List Key × Addr × Value) => x.1 = e.2.1 ∧ x.2.1 = e.2.2.1 ∧ RelV e.2.2.2 x.2.2 ∧ s.heap.IsTuple e.1 #[.ref e.2.2.1, x.2.2] ∧ e ∈ es) (es := es) fun e hm => by
    obtain ⟨h1, h2⟩ := he e hm
    obtain ⟨_, its', rv', p⟩ := I.hok e.1 _ h1
    cases rv' with
    | cons r1 r2 =>
      cases r2 with
      | cons r2 r3 =>
        cases r3
        cases r1
        exact ⟨(e.2.1, e.2.2.1, _), rfl, rfl, r2, p, hm⟩
  have ln := px.length
  have li := rv.length
  rw [List.length_map] at li
  have hn := I.hok.fresh (Nat.le_refl s.heap.objs.size)
  have xk : xs.map (·.1) = es.map fun e => e.2.1 := (paired_eq (fun e : Ent => e.2.1) (·.1) (fun e x r => r.1.symm) px).symm
  have mem : ∀ x ∈ xs, ∃ e ∈ es, x.1 = e.2.1 ∧ x.2.1 = e.2.2.1 := fun x hx => by
    obtain ⟨i, hi⟩ := List.getElem?_of_mem hx
    obtain ⟨e, e1, e2⟩ := paired_back px hi
    exact ⟨e, List.mem_of_getElem? e1, e2.1, e2.2.1⟩
  refine call_dict_pairsH (knd := tupleKind (mixKind X.prog X.w)) (ps := xs) (PairArg.list a its.toArray (fun j => ((es[j]?).map fun e => e.1).getD 0) (xs.map fun x => (Value.ref x.2.1, x.2.2))) (I.ok.hd hc) ?_ ⟨⟨_, n, g1, rfl, rfl, rfl⟩, ?_, fun j k v hj => ?_⟩ ⟨by rw [List.length_map], fun i key v hr => ?_⟩ (fun h' hk' x hx => ?_) (by rw [List.length_map, ← ln]; exact hz) fun h' tk dh kp => ?_
  · show X.A.in1.in1.units < cLine
    have h1 := units_in1' X.A
    have h2 := units_in1' X.A.in1
    omega
  · rw [List.size_toArray, List.length_map, ← ln, ← li]
  · rw [List.getElem?_map] at hj
    obtain ⟨x, hx, ex⟩ := Option.map_eq_some_iff.mp hj
    cases ex
    obtain ⟨e, e1, e2, e3, e4, e5, _⟩ := paired_back px hx
    obtain ⟨u, u1, u2⟩ := rv.get (i := j) (x := .ref e.1) (by rw [List.getElem?_map, e1]; rfl)
    cases u2
    refine ⟨?_, .inl ?_⟩
    · show its.toArray[j]? = some (Value.ref (((es[j]?).map fun (e : Ent) => e.1).getD 0))
      rw [e1]
      simpa using u1
    · show s.heap.IsTuple (((es[j]?).map fun (e : Ent) => e.1).getD 0) #[.ref x.2.1, x.2.2]
      rw [e1, e3]
      exact e5
  · have hr : (xs.map fun x => (Value.ref x.2.1, x.2.2))[i]? = some (key, v) := hr
    rw [List.getElem?_map] at hr
    obtain ⟨x, hx, ex⟩ := Option.map_eq_some_iff.mp hr
    cases ex
    exact ⟨x.1, x.2.1, hx, rfl⟩
  · obtain ⟨e, hm, e1, e2⟩ := mem x hx
    have I2 : Inv X pins σ H { s with heap := h' } := I.kept (t' := s.toks) fun b u hb => hk' b u (Nat.ne_of_lt (Heap.lt_size hb)) (by simp) hb
    rw [e1, e2]
    exact key_of I2.hok (he e hm).2
  · rw [stored_new xs [] (by rw [List.nil_append, xk]; exact hk), List.nil_append] at dh
    obtain ⟨o', es', ep', d1, d2, d3, d4, _, d5⟩ := dh
    refine ⟨.ref s.heap.objs.size, _, I.laid (t' := tk) (o := .dT (es.map fun e => (e.2.1, e.2.2.2))) (fun b u hb => kp b u (by simp) hb) (Nat.le_refl _) ⟨by rw [List.length_map]; exact hz, beq_eq_false_iff_ne.mpr (Nat.ne_of_gt I.big), xs, ?_, o', es', ep', d1, d2, d3, d4, d5⟩, rfl, q _ hn⟩
    have := paired_map (S := fun (p : List Key × V) (y : List Key × Addr × Value) => p.1 = y.1 ∧ upd H s.heap.objs.size (.dT (es.map fun e => (e.2.1, e.2.2.2))) y.2.1 = some (.tup (p.1.map kV)) ∧ RelV p.2 y.2.2) (fun e : Ent => (e.2.1, e.2.2.2)) id (fun e x ⟨r1, r2, r3, _, hm⟩ => ⟨r1.symm, by
      show upd H s.heap.objs.size _ x.2.1 = _
      rw [r2, upd_ne (fun z => by have := (he e hm).2; rw [z, hn] at this; cases this)]
      exact (he e hm).2, r3⟩) px
    rw [List.map_id] at this
    exact this
end L2
namespace Pu
open PySem PySem.Spec L2
open PyProof.Rows hiding St
@[simp] theorem evD_non : evD .non = false := rfl
@[simp] theorem evD_bl (b : Bool) : evD (.bl b) = false := rfl
@[simp] theorem evD_int (i : Int) : evD (.int i) = false := rfl
@[simp] theorem evD_str (z : Str) : evD (.str z) = false := rfl
@[simp] theorem evD_lst (ds : List D) : evD (.lst ds) = false := rfl
@[simp] theorem evD_dct (ds : List (List Key × D)) : evD (.dct ds) = false := rfl
@[simp] theorem evD_ins (c : String) (fs : List (Str × D)) : evD (.ins c fs) = false := rfl
@[simp] theorem evD_tp0 : evD .tp0 = false := rfl
@[simp] theorem evD_scr (ns : List Int) : evD (.scr ns) = false := rfl
@[simp] theorem evD_pair (p : IP) : evD (pairD p) = false := rfl
@[simp] theorem evD_t0 : evD (.tup []) = false := rfl
@[simp] theorem evD_t1 (d : D) : evD (.tup [d]) = false := by
  unfold evD
  split
  · rename_i h; injection h with h; injection h with _ h; cases h
  · rfl
@[simp] theorem evD_ti (i : Int) (ds : List D) : evD (.tup (.int i :: ds)) = false := by
  match ds with
  | [] => rfl
  | [_] => rfl
  | _ :: _ :: _ => rfl
@[simp] theorem evD_ts (z : Str) (ds : List D) : evD (.tup (.str z :: ds)) = false := by
  match ds with
  | [] => rfl
  | [_] => rfl
  | _ :: _ :: _ => rfl
@[simp] theorem evD_t3 (a b c : D) (ds : List D) : evD (.tup (a :: b :: c :: ds)) = false := by
  unfold evD
  split
  · rename_i h; injection h with h; injection h with _ h; injection h with _ h; cases h
  · rfl
@[simp] theorem evD_tt (a : D) (ds e : List D) : evD (.tup (.tup (.tup e :: ds) :: [a])) = false := by
  match ds with
  | [] => rfl
  | [_] => rfl
  | _ :: _ :: _ => rfl
@[simp] theorem evD_tn (a : D) : evD (.tup [.tup [], a]) = false := rfl
@[simp] theorem evD_tst (a : D) (z : Str) (ds : List D) : evD (.tup (.tup (.str z :: ds) :: [a])) = false := by
  match ds with
  | [] => rfl
  | [_] => rfl
  | _ :: _ :: _ => rfl
@[simp] theorem evD_t2p (p : IP) (d : D) : evD (.tup [pairD p, d]) = true := rfl
@[simp] theorem evish_nil : evish [] = false := rfl
@[simp] theorem evish_cons (d : D) (ds : List D) : evish (d :: ds) = (evD d && ds.all evD) := by
  unfold evish
  rw [List.all_cons]
  simp
@[simp] theorem evD_rows (rs : List (List Nat)) : evD (.tup (rs.map rowD)) = false := by
  cases rs with
  | nil => rfl
  | cons a r => exact evD_ts _ _
@[simp] theorem evD_pairs (ps : List IP) : evish (ps.map pairD) = false := by
  cases ps with
  | nil => rfl
  | cons a r => rw [List.map_cons, evish_cons, evD_pair]; rfl
@[simp] theorem evish_rows (rs : List (List Nat)) : evish (rs.map rowD) = false := by
  cases rs with
  | nil => rfl
  | cons a r => rw [List.map_cons, evish_cons]; rfl
theorem tu5 {f1 f2 f3 f4 f5 : MG} : ∀ ds env env', gNs f1 (gNs f2 (gNs f3 (gNs f4 (gNs f5 gN0)))) ds env = some env' → ds.length = 5 := tuS tu4
/-- the pairs of a tuple, each with its key -/
def entsD : List D → Option (List (List Key × D))
  | [] => some []
  | .tup [k, v] :: ds => (keyOf k).bind fun kk => (entsD ds).map fun es => (kk, v) :: es
  | _ :: _ => none
/-- dict(t) of a tuple of pairs, all keys different -/
def dictT : D → Option D
  | .tup ds => if evish ds = true then (entsD ds).bind fun es => if (es.map (·.1)).Nodup then some (.dct es) else none else none
  | .tp0 => some (.dct [])
  | _ => none
theorem key_evD {k : D} {kk : List Key} (h : keyOf k = some kk) : evD k = false := by
  cases k with
  | tup ds =>
    have h : keyL ds = some kk := h
    match ds, h with
    | [], _ => rfl
    | [d], _ => exact evD_t1 d
    | d :: d2 :: r, h =>
      unfold keyL at h
      obtain ⟨k, e1, _⟩ := Option.bind_eq_some_iff.mp h
      cases d with
      | int i => exact evD_ti _ _
      | str z => exact evD_ts _ _
      | _ => cases e1
  | _ => rfl
section
variable {X : Cx} {T : Tx} {W : WX} {F : Addr → Prop} {H : Hp}
theorem ents_rep : ∀ {ds : List D} {xs : List V} {kvs : List (List Key × D)}, RepL T F H ds xs → entsD ds = some kvs → ∃ es : List L2.Ent, xs = es.map (fun e => V.ref e.1) ∧ (∀ e ∈ es, H e.1 = some (.tup [.ref e.2.2.1, e.2.2.2]) ∧ H e.2.2.1 = some (.tup (e.2.1.map kV))) ∧ es.map (fun e => e.2.1) = kvs.map (·.1) ∧ RepT T F H kvs (es.map fun e => (e.2.1, e.2.2.2))
  | [], _, _, .nil, h => by cases h; exact ⟨[], rfl, by simp, rfl, .nil⟩
  | d :: ds, _, _, .cons r1 r2, h => by
    unfold entsD at h
    split at h
    · rename_i heq; cases heq
    · rename_i k v ds' heq
      cases heq
      obtain ⟨kk, e1, e2⟩ := Option.bind_eq_some_iff.mp h
      obtain ⟨es, e3, rfl⟩ := Option.map_eq_some_iff.mp e2
      obtain ⟨us, i1, i2, i3, i4⟩ := ents_rep r2 e3
      have ev : evish [k, v] = false := by rw [evish_cons, key_evD e1]; rfl
      cases r1 with
      | tpl h1 => rw [ev] at h1; cases h1
      | @tup a _ ys h1 h2 h3 =>
        cases h3 with
        | cons q1 q2 =>
          cases q2 with
          | cons q2 q3 =>
            cases q3
            rename_i y
            obtain ⟨b, rfl, hb⟩ := keyOf_rep (.inl q1) e1
            refine ⟨(a, kk, b, y) :: us, by rw [i1]; rfl, fun e he => ?_, by rw [List.map_cons, List.map_cons, i3], .cons q2 i4⟩
            rcases List.mem_cons.mp he with z | z
            · subst z; exact ⟨h2, hb⟩
            · exact i2 e z
    · cases h
theorem call_dictT (hc : X.calm = true) (hu : X.A.units + 4 < cLine) : CallO X T (.type "dict") dictT := by
  refine ⟨_, cr_dictT hc hu, fun g F H σ env d1 v1 d Q S r e q => ?_⟩
  unfold dictT at e
  split at e
  · rename_i ds
    split at e
    · rename_i hev
      obtain ⟨kvs, e1, e2⟩ := Option.bind_eq_some_iff.mp e
      split at e2
      · rename_i hn
        cases e2
        obtain ⟨a, xs, o, rfl, fa, ha, nd, ra⟩ := r.tpl hev
        obtain ⟨es, i1, i2, i3, i4⟩ := ents_rep ra e1
        refine ⟨a, o, es, rfl, by rw [← i1]; exact ha, nd.n, nd.c, i2, by rw [i3]; exact hn, fun p hp => ?_⟩
        obtain ⟨S', E', r'⟩ := own_dct S hp i4
        exact q F _ _ S' E' r'
      · cases e2
    · cases e
  · cases e
    rcases r with r | ⟨_, _, c⟩
    · cases r with
      | @tp0 a o fa ha nd =>
        refine ⟨a, o, [], rfl, ha, nd.n, nd.c, by simp, by simp, fun p hp => ?_⟩
        obtain ⟨S', E', r'⟩ := own_dct S hp (ds := []) (xs := []) .nil
        exact q F _ _ S' E' r'
    · cases c
  · cases e
/-- dict(t) of a list of pairs, all keys different -/
def dictL : D → Option D
  | .lst ds => (entsD ds).bind fun es => if (es.map (·.1)).Nodup then some (.dct es) else none
  | _ => none
theorem call_dictL (hc : X.calm = true) (hu : X.A.units + 4 < cLine) : CallO X T (.type "dict") dictL := by
  refine ⟨_, cr_dictL hc hu, fun g F H σ env d1 v1 d Q S r e q => ?_⟩
  unfold dictL at e
  split at e
  · rename_i ds
    obtain ⟨kvs, e1, e2⟩ := Option.bind_eq_some_iff.mp e
    split at e2
    · rename_i hn
      cases e2
      obtain ⟨a, xs, rfl, ha, ra⟩ := r.lst
      obtain ⟨es, i1, i2, i3, i4⟩ := ents_rep ra e1
      refine ⟨a, es, rfl, by rw [← i1]; exact ha, i2, by rw [i3]; exact hn, fun p hp => ?_⟩
      obtain ⟨S', E', r'⟩ := own_dct S hp i4
      exact q F _ _ S' E' r'
    · cases e2
  · cases e
def dictA : D → Option D := fun a => ((dictD a).or (dictT a)).or (dictL a)
theorem call_dictA (hc : X.calm = true) (hu : X.A.units + 4 < cLine) : CallO X T (.type "dict") dictA := (call_dictD1.or (call_dictT hc hu)).or (call_dictL hc hu)
/-- min, max of two -/
def b2D (k : Int → Int → Int) : D → D → Option D
  | .int i, .int j => some (.int (k i j))
  | _, _ => none
def minI (i j : Int) : Int := if j < i then j else i
def maxI (i j : Int) : Int := if j > i then j else i
@[simp] theorem b2D_int (k : Int → Int → Int) (i j : Int) : b2D k (.int i) (.int j) = some (.int (k i j)) := rfl
theorem u4_of {n : Nat} (h : n + 64 < cLine) : n + 4 < cLine := by omega
theorem call_minI (h : X.calm = true) : CallR X (.builtin "min") (fun xs H Q => ∃ i j, xs = [V.int i, V.int j] ∧ Q (V.int (minI i j)) H) := call_min2 h
theorem call_maxI (h : X.calm = true) : CallR X (.builtin "max") (fun xs H Q => ∃ i j, xs = [V.int i, V.int j] ∧ Q (V.int (maxI i j)) H) := call_max2 h
theorem PX.b2 {id : String} {x : Str} {a b : Expr} {fa fb : M D} {k : Int → Int → Int} {p pos : Pos} (o : CallR X (.builtin id) fun xs H Q => ∃ i j, xs = [V.int i, V.int j] ∧ Q (V.int (k i j)) H) (ha : PX X T W a fa) (hb : PX X T W b fb) (hm : X.mg x = none) (hv : bootBuiltins x = some (.builtin id)) (hg : Gl X x := by rfl) (hn : x ≠ "__name__" := by decide) (hdb : (x == ("__debug__" : Str)) = false := by decide)
    (he : starEach (a :: [b]) X.env = (false, eval a X.env) :: starEach [b] X.env := by rfl) (he2 : starEach (b :: []) X.env = (false, eval b X.env) :: starEach [] X.env := by rfl) (hpl : (backTo pos (starEach [b] X.env)).any (·.1) = false := by rfl) : PX X T W (.Call (.Name x p) [a, b] [] pos) (eOp (b2D k) fa fb) := by
  obtain ⟨ta, qa, pa⟩ := ha.ex
  obtain ⟨tb, qb, pb⟩ := hb.ex
  refine ⟨_, pe_callB o hg hm hv (pa_cons qa (pa_cons qb pa_nil he2) he) hn hdb he hpl, fun g F H σ env Q S G => pa g F H σ env _ S (Goal.bind (fun _ h => h) G fun d1 e1 F1 H1 σ1 _ hs S1 E1 G1 v1 r1 => ?_)⟩
  subst hs
  refine pb g F1 H1 σ1 e1 _ S1 (Goal.bind (fun _ h => h) G1 fun d2 e2 F2 H2 σ2 _ hs S2 E2 G2 v2 r2 => ?_)
  subst hs
  cases q : b2D k d1 d2 with
  | none => rw [q] at G2; exact G2.elim
  | some d =>
    rw [q] at G2
    unfold b2D at q
    split at q
    · cases q
      cases r1
      cases r2
      exact ⟨_, _, rfl, G2 F2 H2 σ2 rfl S2 .refl _ (.int _)⟩
    · cases q
end
end Pu
namespace Pu
open PySem PySem.Spec L2
open PyProof.Rows hiding St
/-! max(xs), min(xs) of a list of numbers -/
def mxL (x : Int) : List Int → Int
  | [] => x
  | y :: r => mxL (if x ≤ y then y else x) r
def mnL (x : Int) : List Int → Int
  | [] => x
  | y :: r => mnL (if y ≤ x then y else x) r
theorem mxL_spec : ∀ (r : List Int) (x : Int), mxL x r ∈ x :: r ∧ ∀ y ∈ x :: r, y ≤ mxL x r
  | [], x => ⟨List.mem_cons_self, fun y h => by rw [List.mem_singleton.mp h]; exact Int.le_refl _⟩
  | z :: r, x => by
    obtain ⟨h1, h2⟩ := mxL_spec r (if x ≤ z then z else x)
    refine ⟨?_, fun y hy => ?_⟩
    · rcases List.mem_cons.mp h1 with e | e
      · unfold mxL
        rw [e]
        split <;> simp
      · exact List.mem_cons_of_mem _ (List.mem_cons_of_mem _ e)
    · have hz := h2 _ List.mem_cons_self
      show y ≤ mxL (if x ≤ z then z else x) r
      rcases List.mem_cons.mp hy with e | e
      · subst e
        split at hz <;> (split <;> omega)
      · rcases List.mem_cons.mp e with e | e
        · subst e
          split at hz <;> (split <;> omega)
        · exact h2 y (List.mem_cons_of_mem _ e)
theorem mnL_spec : ∀ (r : List Int) (x : Int), mnL x r ∈ x :: r ∧ ∀ y ∈ x :: r, mnL x r ≤ y
  | [], x => ⟨List.mem_cons_self, fun y h => by rw [List.mem_singleton.mp h]; exact Int.le_refl _⟩
  | z :: r, x => by
    obtain ⟨h1, h2⟩ := mnL_spec r (if z ≤ x then z else x)
    refine ⟨?_, fun y hy => ?_⟩
    · rcases List.mem_cons.mp h1 with e | e
      · unfold mnL
        rw [e]
        split <;> simp
      · exact List.mem_cons_of_mem _ (List.mem_cons_of_mem _ e)
    · have hz := h2 _ List.mem_cons_self
      show mnL (if z ≤ x then z else x) r ≤ y
      rcases List.mem_cons.mp hy with e | e
      · subst e
        split at hz <;> (split <;> omega)
      · rcases List.mem_cons.mp e with e | e
        · subst e
          split at hz <;> (split <;> omega)
        · exact h2 y (List.mem_cons_of_mem _ e)
def maxD (f : Int → List Int → Int) : D → Option D
  | .lst ds => (intsOf ds).bind fun ns => match ns with
    | [] => none
    | n :: r => some (.int (f n r))
  | _ => none
section
variable {X : Cx} {T : Tx} {W : WX}
theorem call_maxL (hc : X.calm = true) : CallD X T (.builtin "max") (maxD mxL) := by
  refine ⟨_, cr_max hc, fun g F H σ env d1 v1 d Q S r e q => ?_⟩
  unfold maxD at e
  split at e
  · obtain ⟨ns, e1, e2⟩ := Option.bind_eq_some_iff.mp e
    cases ns with
    | nil => cases e2
    | cons n r' =>
      cases e2
      obtain ⟨a, xs, rfl, ha, ra⟩ := r.lst
      rw [intsOf_of e1] at ra
      rw [ra.ints] at ha
      refine ⟨a, n :: r', rfl, .of ha, by simp, fun m hm hall => ?_⟩
      obtain ⟨s1, s2⟩ := mxL_spec r' n
      have em : m = mxL n r' := by
        have := hall _ s1
        have := s2 m hm
        omega
      rw [em]
      exact q F H _ S .refl (.int _)
  · cases e
theorem call_minL (hc : X.calm = true) : CallD X T (.builtin "min") (maxD mnL) := by
  refine ⟨_, cr_min hc, fun g F H σ env d1 v1 d Q S r e q => ?_⟩
  unfold maxD at e
  split at e
  · obtain ⟨ns, e1, e2⟩ := Option.bind_eq_some_iff.mp e
    cases ns with
    | nil => cases e2
    | cons n r' =>
      cases e2
      obtain ⟨a, xs, rfl, ha, ra⟩ := r.lst
      rw [intsOf_of e1] at ra
      rw [ra.ints] at ha
      refine ⟨a, n :: r', rfl, .of ha, by simp, fun m hm hall => ?_⟩
      obtain ⟨s1, s2⟩ := mnL_spec r' n
      have em : m = mnL n r' := by
        have := hall _ s1
        have := s2 m hm
        omega
      rw [em]
      exact q F H _ S .refl (.int _)
  · cases e
end
end Pu
/-! ## a dict is locked behind the evaluation, and free again at the end; {k: v for ..} with tuples as keys -/
namespace L2
open PySem PySem.Spec PyProof.Rows
section
variable {X : Cx}
def tLkA (X : Cx) (t : TE) : TE := fun σ H Q => t σ H fun x H1 => Q x H1 ∨ ∃ d u, H1 d = some u ∧ Mut (some u) ∧ ∀ od, (∀ o' u', X.H_0 d ≠ some (.frz o' u')) → Q x (upd H1 d (.frz od u))
theorem pe_lkA {e : Expr} {t : TE} (h : PE X e t) : PE X e (tLkA X t) := by
  constructor
  intro pins s σ H Q I hw
  refine thn (h.run pins s σ H _ I hw) ?_
  rintro v s1 ⟨x, H1, I1, r, q | ⟨d, u, hd, mu, q⟩⟩
  · exact ⟨x, H1, I1, r, q⟩
  · obtain ⟨od, I2⟩ := I1.lock hd mu
    exact ⟨x, _, I2, r, q od (I1.nofrz hd mu)⟩
/-- as it is, or one thing free again -/
def Fre (X : Cx) (H : Hp) (P : Hp → Prop) : Prop := P H ∨ ∃ d od u, H d = some (.frz od u) ∧ (∀ o' u', X.H_0 d ≠ some (.frz o' u')) ∧ P (upd H d u)
theorem Fre.go {pins : List (Addr × Obj)} {σ : St} {H : Hp} {s : Shared} {P : Hp → Prop} (I : Inv X pins σ H s) (f : Fre X H P) : ∃ H', Inv X pins σ H' s ∧ P H' := by
  rcases f with p | ⟨d, od, u, hd, hn, p⟩
  · exact ⟨H, I, p⟩
  · exact ⟨_, I.unlock hd hn, p⟩
def tUnl (X : Cx) (t : TE) : TE := fun σ H Q => t σ H fun v H' => Fre X H' (Q v)
theorem pe_unl {e : Expr} {t : TE} (h : PE X e t) : PE X e (tUnl X t) := by
  constructor
  intro pins s σ H Q I hw
  refine thn (h.run pins s σ H _ I hw) ?_
  rintro v s1 ⟨x, H1, I1, r, f⟩
  obtain ⟨H2, I2, q⟩ := f.go I1
  exact ⟨x, H2, I2, r, q⟩
def unlE (X : Cx) (D : Ends) : Ends := ⟨fun σ' H' => Fre X H' (D.nx σ'), fun v H' => Fre X H' (D.rt v), fun σ' H' => Fre X H' (D.bk σ'), fun σ' H' => Fre X H' (D.ct σ')⟩
theorem ps_unl {st : Stmt} {t : TS} (h : PS X st t) : PS X st (fun D σ H => t (unlE X D) σ H) := by
  constructor
  intro pins s σ H D I hw
  refine thn (h.run pins s σ H _ I hw) fun f s1 q => ?_
  cases f with
  | next =>
    obtain ⟨σ', H', I2, q⟩ := q
    obtain ⟨H2, I3, q⟩ := Fre.go I2 q
    exact ⟨σ', _, I3, q⟩
  | brk =>
    obtain ⟨σ', H', I2, q⟩ := q
    obtain ⟨H2, I3, q⟩ := Fre.go I2 q
    exact ⟨σ', _, I3, q⟩
  | cont =>
    obtain ⟨σ', H', I2, q⟩ := q
    obtain ⟨H2, I3, q⟩ := Fre.go I2 q
    exact ⟨σ', _, I3, q⟩
  | ret v =>
    obtain ⟨x, σ', H', I2, r, q⟩ := q
    obtain ⟨H2, I3, q⟩ := Fre.go I2 q
    exact ⟨x, σ', _, I3, r, q⟩
theorem pi_or {tg e : Expr} {w1 w2 : TI} (h1 : PI X tg e w1) (h2 : PI X tg e w2) : PI X tg e (fun σ H R => w1 σ H R ∨ w2 σ H R) := ⟨fun pins s σ H R I h => h.elim (h1.run pins s σ H R I) (h2.run pins s σ H R I)⟩

/-- an entry by a comprehension, the key a tuple -/
theorem put_tup {pins : List (Addr × Obj)} {σ : St} {H : Hp} {s : Shared} {E : Value → Shared → Prop} {D b : Addr} {kvs : List (List Key × V)} {k : List Key} {y : V} {r : Value} {Q : Unit → Shared → Prop} (hu : X.A.units + 1 < cLine)
    (I : Inv X pins σ H s) (hD : H D = some (.dT kvs)) (hl : kvs.length < sizeLine) (hb : H b = some (.tup (k.map kV))) (ry : RelV y r) (h : ∀ s', Inv X pins σ (upd H D (.dT (putK kvs k y))) s' → Q () s') :
    wpAny (model X.prog X.w) X.A (dictSet D (.ref b) r) Q E s := by
  obtain ⟨z, hs, xs, pr, dd⟩ := dt_of I.hok hD
  have lx : xs.length ≤ sizeLine := by rw [← Paired.length pr]; exact z
  have lp : (putK kvs k y).length ≤ sizeLine := by have := length_putK kvs k y; omega
  refine wpAny_dictSet_heap (hsz := lx) (show (tupleKind (mixKind X.prog X.w)).room X.A from Nat.lt_of_succ_lt (show X.A.units + 1 < cLine from hu)) (key_of I.hok hb) dd fun h' new sb => h _ ?_
  obtain ⟨q, es, ep, g1, g2, g3, g4, _, g5⟩ := new
  have keep : ∀ c ys, H c = some (HO.tup ys) → upd H D (.dT (putK kvs k y)) c = some (.tup ys) := fun c ys ec => by
    rw [upd_ne (ne_of ec hD (fun z => nomatch z))]; exact ec
  exact d_write I (by rw [hD]; exact True.intro) sb ⟨q, g1⟩ ⟨lp, hs, _, (pr.put k hb ry).keeps keep, q, es, ep, g1, g2, g3, g4, g5⟩
/-- {k: v for target in iter if ..}: D the new dict -/
def tDcT (wi : TI) (g : TG) (tt : TT) (tk tv : TE) (vs : List Nat) : TE := fun σ H Q => wi σ H fun J H1 => ∀ D, H1 D = none → ∃ U : Nat → Nat → Hp → Prop, (∃ m, U 0 m (upd H1 D (.dT []))) ∧ ∀ i m H, U i m H →
  (J.stop i H ∧ Q (.ref D) H) ∨ (J.go i H ∧ ∃ N : Hp → Prop, (∀ H', N H' → ∃ m', m' < m ∧ U (i + 1) m' H') ∧ ∀ x H', J.yld i H x H' → g x (wipe σ vs) H' fun σ2 H2 => wipe σ2 vs = wipe σ vs ∧ tt σ2 H2 fun ok H3 =>
    if ok = true then tk σ2 H3 fun y H4 => tv σ2 H4 fun z H5 => ∃ b kvs k, y = .ref b ∧ H5 b = some (.tup (k.map kV)) ∧ H5 D = some (.dT kvs) ∧ kvs.length < sizeLine ∧ N (upd H5 D (.dT (putK kvs k z))) else N H3)
theorem dcT_run {pins : List (Addr × Obj)} {s : Shared} {σ : St} {H : Hp} {Q : VK} {use : Option (Value → Sem Unit)} {Qf : Value → Shared → Prop} {pos2 : Pos} {kx vx tg iter : Expr} {ifs : List Expr} {scope : Scope} {own : List (Str × Nat)} {pos : Pos} {wi : TI} {g : TG} {tt : TT} {tk tv : TE} (hc : X.calm = true) (hu : X.A.units + 1 < cLine) (hN : X.N.Nodup) (I : Inv X pins σ H s) (hi : PI X tg iter wi) (ok : BlkOk X.N X.env.scope scope own)
    (hg : ∀ (s : Shared) (H : Hp) (C : Addr) (cl : List (Str × Addr)) (fp : List Addr), PG (X.blk s H scope (compEnvC scope cl C X.env) fp) tg g)
    (ht : ∀ (s : Shared) (H : Hp) (C : Addr) (cl : List (Str × Addr)) (fp : List Addr), PTs (X.blk s H scope (compEnvC scope cl C X.env) fp) ifs tt)
    (hk : ∀ (s : Shared) (H : Hp) (C : Addr) (cl : List (Str × Addr)) (fp : List Addr), PE (X.blk s H scope (compEnvC scope cl C X.env) fp) kx tk)
    (hv : ∀ (s : Shared) (H : Hp) (C : Addr) (cl : List (Str × Addr)) (fp : List Addr), PE (X.blk s H scope (compEnvC scope cl C X.env) fp) vx tv) (hs : ∀ x, foldedSetIterable iter X.env x = pure x)
    (h : tDcT wi g tt tk tv (own.map (·.2)) σ H Q) (hR : ∀ D C s' m H', Inv X pins σ H' s' → Q (.ref D) H' → s'.heap.Ns C m → FpOk X pins H' C → compPost (model X.prog X.w) X.A X.xe use Qf (.ref D) C (.ok .next) s') :
    wpAny (model X.prog X.w) X.A (comprehension (.DictComp kx vx [⟨tg, iter, ifs, 0⟩] scope pos) scope X.env pos2 newDict false (eval iter X.env) use) Qf X.xe s := by
  have frees : ∀ y ∈ scope.names, y.2 = .free → ∃ c, X.env.cells.lookup y.1 = some c := fun y hy e => (ok.free y hy e).elim (fun q => I.ok.has _ (.inl q)) fun q => I.ok.has _ (.inr q)
  refine wpAny_comprehension_free (use := use) rfl hs (closure_ok frees) ok.kind (fun y hy e => by rw [ok.uniq y hy, e]) (thn (hi.run pins s σ H _ I h) ?_)
  intro xv s1 hx
  refine thn hx ?_
  rintro itv s2 ⟨it, fp, tn, J, H2, rfl, I2, T, st2, f2, q⟩
  refine wpAny_newObj_type (newEnv_comp ?_)
  obtain ⟨D, hD⟩ : ∃ D, D = s2.heap.objs.size := ⟨_, rfl⟩
  have noD : H2 D = none := I2.hok.fresh (Nat.le_of_eq hD.symm)
  obtain ⟨U, ⟨m0, u0⟩, turn⟩ := q D noD
  -- the new dict is there
  obtain ⟨s3, hs3⟩ : ∃ s3 : Shared, s3 = { s2 with heap := s2.heap.push { cls := .type "dict", data := .dict #[] } } := ⟨_, rfl⟩
  have e3 : s3.heap = s2.heap.push { cls := .type "dict", data := .dict #[] } := by rw [hs3]
  have up3 : ∀ (b : Addr) (o : Obj), s2.heap.get? b = some o → s3.heap.get? b = some o := fun b o e => by rw [e3]; exact Heap.get?_push_of_some _ e
  obtain ⟨HD, hHD⟩ : ∃ HD, HD = upd H2 D (.dT []) := ⟨_, rfl⟩
  have I3 : Inv X pins σ HD s3 := by
    rw [hs3, hHD, hD]
    exact I2.laid (t' := s2.toks) (fun _ _ e => Heap.get?_push_of_some _ e) (Nat.le_refl _) (dt_empty s2.heap I2.big)
  have lowfp : ∀ b ∈ fp, b < s2.heap.objs.size := fun b hb => let ⟨_, e, _⟩ := T.obj _ _ st2 b hb; Heap.lt_size e
  have f3 : ∀ b ∈ fp, FpOk X pins HD b ∧ b < s3.heap.objs.size := fun b hb => by
    have lt := lowfp b hb
    have ne : b ≠ D := by rw [hD]; exact Nat.ne_of_lt lt
    refine ⟨⟨by rw [hHD, upd_ne ne]; exact (f2 b hb).1, (f2 b hb).2⟩, ?_⟩
    rw [e3, Heap.size_push]
    exact Nat.lt_succ_of_lt lt
  have st3 : tn 0 s3.heap := T.keep _ _ _ st2 fun b _ o e => up3 b o e
  have I4 := block_start I3 ok hN f3
  rw [← hD]
  have e3' : (s2.heap.push { cls := .type "dict", data := .dict #[] }) = s3.heap := e3.symm
  obtain ⟨C, hC⟩ : ∃ C, C = s3.heap.objs.size := ⟨_, rfl⟩
  obtain ⟨cl, hcl⟩ : ∃ cl, cl = cellsFrom (s3.heap.objs.size + 1) scope.names (cloFrom X.env.cells scope.names []) := ⟨_, rfl⟩
  obtain ⟨ce, hce⟩ : ∃ ce, ce = compEnvC scope cl C X.env := ⟨_, rfl⟩
  have pg := hg s3 HD C cl fp
  have pt := ht s3 HD C cl fp
  have pk := hk s3 HD C cl fp
  have pv := hv s3 HD C cl fp
  rw [← hcl, ← hC, ← hce] at I4
  rw [← hce] at pg pt pk pv
  obtain ⟨s4, hs4⟩ : ∃ s4 : Shared, s4 = { s3 with heap := pushCells (s3.heap.push { cls := .type "dict", data := .dict #[] }) scope.names } := ⟨_, rfl⟩
  rw [← hs4] at I4
  have st4 : tn 0 s4.heap := T.keep _ _ _ st3 fun b _ o e => by rw [hs4]; exact pushCells_keeps _ _ _ _ (Heap.get?_push_of_some _ e)
  have noFp : ∀ b ∈ fp, HD b = none := fun b hb => (f3 b hb).1.1
  have locC : ce.locals = C := by rw [hce]; rfl
  have fpAt : ∀ {σ' : St} {H' : Hp} {s' : Shared}, Inv (X.blk s3 HD scope ce fp) [] σ' H' s' → (∀ b ∈ fp, H' b = none) → ∀ b ∈ fp, FpOk (X.blk s3 HD scope ce fp) [] H' b := fun {σ' H' s'} J hn b hb => by
    have x1 := J.ok.exf b hb
    exact ⟨hn b hb, x1.1, J.ok.exfs b hb, .inl hb, fun x c e => x1.2 x c e, fun p hp => by
      have hp : p ∈ ([] : List (Addr × Obj)) ++ [] := hp
      simp at hp⟩
  have goal : codeAny (model X.prog X.w) X.A (.compLoop (.DictComp kx vx [⟨tg, iter, ifs, 0⟩] scope pos) 0 (.ref it) (.ref D) ce) (compPost (model X.prog X.w) X.A X.xe use Qf (.ref D) C) s4 := by
    refine compLoop_anyD (fun n s' => ∃ i H', Inv (X.blk s3 HD scope ce fp) [] (wipe σ (own.map (·.2))) H' s' ∧ tn i s'.heap ∧ (∀ b ∈ fp, H' b = none) ∧ U i n H') ?_ m0 ⟨0, HD, I4, st4, noFp, by rw [hHD]; exact u0⟩
    rintro n s5 ⟨i, H5, I5, st5, n5, u5⟩
    rcases turn i n H5 u5 with ⟨stop, fin⟩ | ⟨go, N, hN', step⟩
    · refine thnF (T.done (X.blk s3 HD scope ce fp) rfl rfl rfl hc i [] s5 _ H5 (fun _ _ => False) I5 (fpAt I5 n5) st5 stop) ?_
      rintro r s6 ⟨rfl, I6⟩
      have I7 : Inv X pins σ H5 s6 := I3.call' (ch := fp) I6.os I6.base I6.hok I6.bare fun b hb => by
        obtain ⟨_, x1, _, x3, x4, x5⟩ := (f3 b hb).1
        exact ⟨x3, x1, x4, x5⟩
      have noC : H5 C = none := by rw [← locC]; exact I6.free
      obtain ⟨m, hm, _⟩ := I6.loc
      have hm : s6.heap.Ns C m := by rw [← locC]; exact hm
      exact hR D C s6 m H5 I7 fin hm (I3.fpOk (Nat.le_of_eq hC.symm) noC)
    · refine thnF (T.item (X.blk s3 HD scope ce fp) rfl rfl rfl hc i [] s5 _ H5 (fun _ _ => False) I5 (fpAt I5 n5) st5 go) ?_
      rintro r s6 ⟨u, rfl, h6⟩
      refine thnF h6 ?_
      rintro _ s7 ⟨x, H7, I7, r7, y7, st7, n7⟩
      have pin7 := I7.pinned (fpAt I7 n7) (T.obj _ _ st7)
      refine thnF (pg.run _ s7 _ H7 x u _ pin7 r7 (step x H7 y7)) ?_
      rintro _ s8 ⟨σ8, H8, I8, w8, q8⟩
      refine thnF (pt.run _ s8 σ8 H8 _ I8 q8) ?_
      rintro b s9 ⟨H9, I9, q9⟩
      have next : ∀ (s' : Shared) (H' : Hp), Inv (X.blk s3 HD scope ce fp) ([] ++ pinsAt fp s7.heap) σ8 H' s' → N H' → ∃ m, m < n ∧ ∃ i H', Inv (X.blk s3 HD scope ce fp) [] (wipe σ (own.map (·.2))) H' s' ∧ tn i s'.heap ∧ (∀ b ∈ fp, H' b = none) ∧ U i m H' := fun s' H' IZ nz => by
        obtain ⟨m', lt, uz⟩ := hN' H' nz
        have pinned : ∀ b ∈ fp, ∀ o, s7.heap.get? b = some o → s'.heap.get? b = some o ∧ H' b = none := fun b hb o e => by
          have z := IZ.pin (b, o) (List.mem_append_right _ (List.mem_append_right _ (mem_pinsAt hb e)))
          exact ⟨z.1, z.2.1⟩
        have len8 : (wipe σ (own.map (·.2))).length = σ8.length := by rw [← w8, wipe_length]
        have IW := (IZ.unpinned (pins := [])).weak len8 (fun j v e => by rw [← w8] at e; exact (wipe_some e).1)
        refine ⟨m', lt, i + 1, H', IW, T.keep _ _ _ st7 fun b hb o e => (pinned b hb o e).1, fun b hb => ?_, uz⟩
        obtain ⟨o, e, _⟩ := T.obj _ _ st7 b hb
        exact (pinned b hb o e).2
      cases b with
      | false => exact next _ _ I9 q9
      | true =>
        refine thnF (pk.run _ s9 σ8 H9 _ I9 q9) ?_
        rintro z s10 ⟨yk, H10, I10, r10, q10⟩
        refine thnF (pv.run _ s10 σ8 H10 _ I10 q10) ?_
        rintro z2 s11 ⟨yv, H11, I11, r11, b, kvs, k, rfl, hb, hD11, hl11, nx⟩
        cases (show z = Value.ref b from r10)
        exact put_tup (X := X.blk s3 HD scope ce fp) (show X.A.units + 1 < cLine from hu) I11 hD11 hl11 hb r11 fun s12 I12 => next _ _ I12 nx
  have res := codeAny_compStart_dict goal (T.self X.A 0 _ _ _ st4 goal)
  rw [hce, hcl, hC, hs4, e3] at res
  rw [hs3] at res
  exact res
theorem pe_dcT {kx vx tg iter : Expr} {ifs : List Expr} {scope : Scope} {own : List (Str × Nat)} {pos : Pos} {wi : TI} {g : TG} {tt : TT} {tk tv : TE} (hc : X.calm = true) (hu : X.A.units + 1 < cLine) (hN : X.N.Nodup) (hi : PI X tg iter wi) (ok : BlkOk X.N X.env.scope scope own)
    (hg : ∀ (s : Shared) (H : Hp) (C : Addr) (cl : List (Str × Addr)) (fp : List Addr), PG (X.blk s H scope (compEnvC scope cl C X.env) fp) tg g)
    (ht : ∀ (s : Shared) (H : Hp) (C : Addr) (cl : List (Str × Addr)) (fp : List Addr), PTs (X.blk s H scope (compEnvC scope cl C X.env) fp) ifs tt)
    (hk : ∀ (s : Shared) (H : Hp) (C : Addr) (cl : List (Str × Addr)) (fp : List Addr), PE (X.blk s H scope (compEnvC scope cl C X.env) fp) kx tk)
    (hv : ∀ (s : Shared) (H : Hp) (C : Addr) (cl : List (Str × Addr)) (fp : List Addr), PE (X.blk s H scope (compEnvC scope cl C X.env) fp) vx tv) (hs : ∀ x, foldedSetIterable iter X.env x = pure x) :
    PE X (.DictComp kx vx [⟨tg, iter, ifs, 0⟩] scope pos) (tDcT wi g tt tk tv (own.map (·.2))) := by
  constructor
  intro pins s σ H Q I h
  rw [arm_eval_DictComp]
  refine dcT_run hc hu hN I hi ok hg ht hk hv hs h ?_
  intro D C s' m H' I' q hm f
  refine ⟨m, hm, fun h2 sb => ?_⟩
  obtain ⟨f0, f1, f2, f3, f4, f5⟩ := f
  exact ⟨.ref D, H', I'.turned (t' := s'.toks) (fun b o hb e => (sb.2 b hb).trans e) f0 f1 f3 f4 f5, rfl, q⟩
/-- name = {k: v for ..} on one line, the name a local -/
theorem ps_setDcT {i : Nat} {y : Str} {py spos : Pos} {kx vx tg iter : Expr} {ifs : List Expr} {scope : Scope} {own : List (Str × Nat)} {pos : Pos} {wi : TI} {g : TG} {tt : TT} {tk tv : TE} (hc : X.calm = true) (hu : X.A.units + 1 < cLine) (hN : X.N.Nodup) (hi : PI X tg iter wi) (ok : BlkOk X.N X.env.scope scope own)
    (hg : ∀ (s : Shared) (H : Hp) (C : Addr) (cl : List (Str × Addr)) (fp : List Addr), PG (X.blk s H scope (compEnvC scope cl C X.env) fp) tg g)
    (ht : ∀ (s : Shared) (H : Hp) (C : Addr) (cl : List (Str × Addr)) (fp : List Addr), PTs (X.blk s H scope (compEnvC scope cl C X.env) fp) ifs tt)
    (hk : ∀ (s : Shared) (H : Hp) (C : Addr) (cl : List (Str × Addr)) (fp : List Addr), PE (X.blk s H scope (compEnvC scope cl C X.env) fp) kx tk)
    (hv : ∀ (s : Shared) (H : Hp) (C : Addr) (cl : List (Str × Addr)) (fp : List Addr), PE (X.blk s H scope (compEnvC scope cl C X.env) fp) vx tv) (hs : ∀ x, foldedSetIterable iter X.env x = pure x)
    (hy : X.N[i]? = some y) (hyl : X.env.scope.names.lookup y = some .local) (hsw : swapsWith (.DictComp kx vx [⟨tg, iter, ifs, 0⟩] scope pos) (some (.Name y py)) spos.line X.env = pure true) :
    PS X (.Assign [.Name y py] (.DictComp kx vx [⟨tg, iter, ifs, 0⟩] scope pos) spos) (tAsg (tDcT wi g tt tk tv (own.map (·.2))) (gName i)) := by
  constructor
  intro pins s σ H D I h
  rw [exec_Assign_Name_used _ _ _ _ hsw]
  refine wpAny_bind (wpAny_standAt (wpAny_bind (wpAny_bind (thn (Q := fun _ s' => SP X pins D .next s') ?_ fun _ s' q => wpAny_pure (wpAny_pure q)))))
  refine dcT_run (use := some (assign (.Name y py) X.env)) (pos2 := firstIterPos [⟨tg, iter, ifs, 0⟩] pos) hc hu hN I hi ok hg ht hk hv hs (Q := fun x H1 => gName i x σ H1 D.nx) h ?_
  intro L C s' m H' I' q hm f
  show wpAny _ _ (assign (.Name y py) X.env (.ref L)) _ _ _
  refine wpAny_assign_Name (store_ok2 (v := V.ref L) I' hN hy (.inl hyl) rfl (fun s2 I2 hex => ?_) (.inr hyl))
  obtain ⟨a, sb, ha⟩ := hex
  obtain ⟨f0, f1, f2, f3, f4, f5⟩ := f
  have nCa : C ≠ a := ha.elim (fun z => by rw [z]; exact f1) fun z e => f4 y a z e.symm
  refine ⟨m, hm.sameBut sb nCa, fun h3 sb3 => ⟨_, H', I2.turned (t' := s2.toks) (fun b o hb e => (sb3.2 b hb).trans e) f0 f1 f3 f4 f5, q⟩⟩
theorem sw_dc {kx vx : Expr} {gs : List Comprehension} {scope : Scope} {pos py : Pos} {y : Str} {l : Nat} {env : Env} (hk : env.scope.kind = .function) (hy : env.scope.names.lookup y = some .local) (hl : (py.line == pos.line) = true)
    (ha : (scope.names.any fun (n, k) => n == y && (k == .local || k == .cell)) = false) : swapsWith (.DictComp kx vx gs scope pos) (some (.Name y py)) l env = pure true := by
  have e1 : env.kindOf y = some .local := hy
  have e2 : env.blockKind = .function := by unfold Env.blockKind; rw [hk]; rfl
  unfold swapsWith
  simp only [e1, e2, ha, hl, Expr.pos]
  rfl
end
end L2
/-! ## walks over anything, a dict too: comprehensions of lists and of dicts, for -/
namespace Pu
open PySem PySem.Spec L2
open PyProof.Rows hiding St
def cpG {α : Type} (tg : MG) (tst : M Bool) (bd : α → En → Out α) (vs : List Nat) : List D → α → En → Out α
  | [], acc, e => .ok acc e
  | d :: ds, acc, e => match tg d e with
    | none => .bad
    | some e1 => (tst e1).nox.bind fun b e2 => if b = true then (bd acc e2).nox.bind fun acc' e3 => cpG tg tst bd vs ds acc' (wipeE e3 vs) else cpG tg tst bd vs ds acc (wipeE e2 vs)
def bdK (fk fv : M D) : List (List Key × D) → En → Out (List (List Key × D)) := fun acc e => (fk e).nox.bind fun k e1 => (fv e1).nox.bind fun v e2 => match keyOf k with
  | some kk => if acc.length < big then .ok (putT acc kk v) e2 else .bad
  | none => .bad
def eDc (tg : MG) (fi : M (List D)) (tst : M Bool) (fk fv : M D) (vs : List Nat) : M D := fun env => (fi env).bind fun ds e1 => (cpG tg tst (bdK fk fv) vs ds [] (wipeE e1 vs)).nox.bind fun acc e => .ok (.dct acc) e
theorem nox_bind {α β : Type} (o : Out α) (k : α → En → Out β) : (o.nox.bind k).nox = o.nox.bind fun a e => (k a e).nox := by cases o <;> rfl
theorem nox_assoc {α β γ : Type} (o : Out α) (k : α → En → Out β) (l : β → En → Out γ) : (o.nox.bind k).bind l = o.nox.bind fun a e => (k a e).bind l := by cases o <;> rfl
theorem nox_nox {α : Type} (o : Out α) : o.nox.nox = o.nox := by cases o <;> rfl
theorem cpG_nox {α : Type} {tg : MG} {tst : M Bool} {bd : α → En → Out α} {vs : List Nat} : ∀ (ds : List D) (acc : α) (e : En), (cpG tg tst bd vs ds acc e).nox = cpG tg tst bd vs ds acc e
  | [], _, _ => rfl
  | d :: ds, acc, e => by
    unfold cpG
    cases tg d e with
    | none => rfl
    | some e1 =>
      dsimp only
      rw [nox_bind]
      congr 1
      funext b e2
      split
      · rw [nox_bind]
        congr 1
        funext acc' e3
        exact cpG_nox ds acc' _
      · exact cpG_nox ds acc _
theorem lcL_cp {tg : MG} {tst : M Bool} {elt : M D} {vs : List Nat} : ∀ (ds acc : List D) (e : En), lcL tg tst elt vs ds acc e = (cpG tg tst (bdE elt) vs ds acc e).bind fun acc e => .ok (.lst acc) e
  | [], _, _ => rfl
  | d :: ds, acc, e => by
    unfold lcL cpG
    cases tg d e with
    | none => rfl
    | some e1 =>
      dsimp only
      rw [nox_assoc]
      congr 1
      funext b e2
      split
      · unfold bdE
        rw [nox_bind, nox_assoc, nox_assoc]
        congr 1
        funext y e3
        split
        · exact lcL_cp ds _ _
        · rfl
      · exact lcL_cp ds acc _
/-- a walk under what is fixed -/
structure WkE (T : Tx) (g : G) (F1 : Addr → Prop) (H1 : Hp) (J : It) (ds : List D) : Prop where
  go : ∀ (F' : Addr → Prop) (H' : Hp) (i : Nat), Ext g F1 H1 F' H' → i < ds.length → J.go i H'
  stop : ∀ (F' : Addr → Prop) (H' : Hp), Ext g F1 H1 F' H' → J.stop ds.length H'
  yld : ∀ (g' : G) (F' : Addr → Prop) (H' : Hp) (σ : St) (env : En) (i : Nat) (x : V) (H'' : Hp), Ext g F1 H1 F' H' → St8 T g' F' H' σ env → J.yld i H' x H'' → i < ds.length → ∃ F'' d, ds[i]? = some d ∧ St8 T g' F'' H'' σ env ∧ Ext g' F' H' F'' H'' ∧ Rep T F'' H'' d x
section
variable {X : Cx} {T : Tx} {W : WX} {g : G} {F1 : Addr → Prop} {H1 : Hp} {J : It} {ds : List D}
theorem Wk.e (h : Wk T F1 H1 J ds) : WkE T g F1 H1 J ds := ⟨fun F' H' i E => h.go F' H' i E.f E.k, fun F' H' E => h.stop F' H' E.f E.k, fun g' F' H' σ env i x H'' E => h.yld g' F' H' σ env i x H'' E.f E.k⟩
theorem WkD.e {a : Addr} {o : HO} (h : WkD T F1 H1 a J ds) (hl : g.L a) (ha : H1 a = some o) : WkE T g F1 H1 J ds := by
  have k : ∀ {F' H'}, Ext g F1 H1 F' H' → H' a = H1 a := fun E => by rw [ha]; exact E.lk a _ hl ha
  exact ⟨fun F' H' i E => h.go F' H' i E.f E.k (k E), fun F' H' E => h.stop F' H' E.f E.k (k E), fun g' F' H' σ env i x H'' E => h.yld g' F' H' σ env i x H'' E.f E.k⟩
/-- behind i items -/
def CInv {α : Type} (T : Tx) (g : G) (p : Addr) (Acc : (Addr → Prop) → Hp → α → Prop) (F1 : Addr → Prop) (H1 : Hp) (σ1 : St) (vs : List Nat) (lf : List D → α → En → Out α) (ds : List D) (accZ : α) (envZ : En) (i m : Nat) (H' : Hp) : Prop :=
  m = ds.length - i ∧ i ≤ ds.length ∧ ∃ F' env' acc, St8 T (g.lock p) F' H' (wipe σ1 vs) env' ∧ Ext g F1 H1 F' H' ∧ ¬ F' p ∧ (∃ o, H' p = some o) ∧ Acc F' H' acc ∧ (∀ i ∈ vs, ∀ s, env'[i]? = some s → s = .no) ∧ lf (ds.drop i) acc env' = .ok accZ envZ
theorem lock_nr {F : Addr → Prop} {H : Hp} {σ : St} {env : En} {p : Addr} (S : St8 T (g.lock p) F H σ env) : ¬ Roots σ env p := by
  rintro ⟨j, s, e, hs, l⟩
  obtain ⟨a, d, h1, _, _, h4, _⟩ := (S.sl j s e).root hs
  rw [l] at h1
  cases h1
  exact h4 (.inr rfl)
theorem cp_turns {α : Type} {gt : TG} {tt : TT} {Mid : St → Hp → (Hp → Prop) → Prop} {vs : List Nat} {ft : MG} {ftst : M Bool} {bd : α → En → Out α} {p : Addr} {Acc : (Addr → Prop) → Hp → α → Prop}
    (hAcc : ∀ F H F' H' acc, Acc F H acc → Ext (g.lock p) F H F' H' → Acc F' H' acc)
    (pt : ∀ g F H σ env d v Q env', St8 T g F H σ env → Rep T F H d v → ft d env = some env' → (∀ σ', St8 T g F H σ' env' → (∀ i, i ∉ vs → look σ' i = look σ i) → wipe σ' vs = wipe σ vs → Q σ' H) → gt v σ H Q)
    (ptst : ∀ g F H σ env Q, St8 T g F H σ env → TGo T g W0 F H σ Q (ftst env) → tt σ H Q)
    {σ1 : St} (wk : WkE T g F1 H1 J ds) {accZ : α} {envZ : En}
    (pmid : ∀ (F : Addr → Prop) (H : Hp) (σ : St) (env : En) (acc acc' : α) (env' : En) (Nx : Hp → Prop), St8 T (g.lock p) F H σ env → ¬ F p → (∃ o, H p = some o) → Acc F H acc → bd acc env = .ok acc' env' →
      (∀ (F' : Addr → Prop) (H' : Hp) (σ' : St), St8 T (g.lock p) F' H' σ' env' → (∀ i, i ∉ vs → look σ' i = look σ i) → σ'.length = σ.length → Ext g F H F' H' → ¬ F' p → (∃ o, H' p = some o) → Acc F' H' acc' → Nx H') → Mid σ H Nx)
    {Fin : Hp → Prop} (fin : ∀ (F' : Addr → Prop) (H' : Hp), St8 T (g.lock p) F' H' (wipe σ1 vs) envZ → Ext g F1 H1 F' H' → ¬ F' p → (∃ o, H' p = some o) → Acc F' H' accZ → (∀ i ∈ vs, ∀ s, envZ[i]? = some s → s = .no) → Fin H') (i m : Nat) (H' : Hp) (Z : CInv T g p Acc F1 H1 σ1 vs (cpG ft ftst bd vs) ds accZ envZ i m H') :
    (J.stop i H' ∧ Fin H') ∨ (J.go i H' ∧ ∃ Nx : Hp → Prop, (∀ H', Nx H' → ∃ m', m' < m ∧ CInv T g p Acc F1 H1 σ1 vs (cpG ft ftst bd vs) ds accZ envZ (i + 1) m' H') ∧ ∀ x H2, J.yld i H' x H2 → gt x (wipe σ1 vs) H2 fun σ2 H3 => wipe σ2 vs = wipe σ1 vs ∧ tt σ2 H3 fun b H4 => if b = true then Mid σ2 H4 Nx else Nx H4) := by
  obtain ⟨rfl, hi, F', env', acc, S', E', nf, hx, rx, hno, G'⟩ := Z
  by_cases hlt : i < ds.length
  · refine .inr ⟨wk.go F' H' i E' hlt, fun H2 => ∃ m', m' < ds.length - i ∧ CInv T g p Acc F1 H1 σ1 vs (cpG ft ftst bd vs) ds accZ envZ (i + 1) m' H2, fun _ z => z, fun x H2 y => ?_⟩
    obtain ⟨F2, d, hd, S2, E2, r2⟩ := wk.yld (g.lock p) F' H' _ env' i x H2 E' S' y hlt
    have ed : ds.drop i = d :: ds.drop (i + 1) := by
      rw [List.getElem?_eq_getElem hlt] at hd
      rw [List.drop_eq_getElem_cons hlt, Option.some.inj hd]
    rw [ed] at G'
    unfold cpG at G'
    cases et : ft d env' with
    | none => simp only [et] at G'; cases G'
    | some e2 =>
      simp only [et] at G'
      refine pt (g.lock p) F2 H2 _ env' d x _ e2 S2 r2 et fun σ3 S3 hl3 hw3 => ⟨?_, ?_⟩
      · rw [hw3, wipe_idem]
      have l3 : σ3.length = σ1.length := by have := congrArg List.length hw3; rw [wipe_length, wipe_length, wipe_length] at this; exact this
      have fin5 : ∀ (F5 : Addr → Prop) (H5 : Hp) (σ5 : St) (env5 : En) (acc5 : α), St8 T (g.lock p) F5 H5 σ5 env5 → (∀ i, i ∉ vs → look σ5 i = look σ3 i) → σ5.length = σ3.length → Ext g F1 H1 F5 H5 → ¬ F5 p → (∃ o, H5 p = some o) → Acc F5 H5 acc5 → cpG ft ftst bd vs (ds.drop (i + 1)) acc5 (wipeE env5 vs) = .ok accZ envZ →
          ∃ m', m' < ds.length - i ∧ CInv T g p Acc F1 H1 σ1 vs (cpG ft ftst bd vs) ds accZ envZ (i + 1) m' H5 := fun F5 H5 σ5 env5 acc5 S5 lk5 ln5 E5 n5 h5 a5 G5 => by
        have r5 := lock_nr S5
        have SX := S5.unlock.wiped (σ2 := wipe σ1 vs) vs (fun j hj => by rw [lk5 j hj, hl3 j hj]) (by rw [wipe_length, ln5, l3])
        refine ⟨_, by omega, rfl, hlt, F5, wipeE env5 vs, acc5, SX.lock h5 ?_, E5, n5, h5, a5, fun j hj s e => ?_, G5⟩
        · rintro ⟨j, s, e, hs, l⟩
          rcases wipeE_get e with ⟨_, z⟩ | ⟨z, e⟩
          · rw [z] at hs; cases hs
          · exact r5 ⟨j, s, e, hs, by rw [look_wipe, if_neg z] at l; rw [lk5 j z, hl3 j z, look_wipe, if_neg z]; exact l⟩
        · rcases wipeE_get e with ⟨_, z⟩ | ⟨z, _⟩
          · exact z
          · exact absurd hj z
      cases ct : ftst e2 with
      | bad => rw [ct] at G'; cases G'
      | exc x e => rw [ct] at G'; cases G'
      | ok b e3 =>
        rw [ct] at G'
        have G' : (if b = true then (bd acc e3).nox.bind fun acc' e4 => cpG ft ftst bd vs (ds.drop (i + 1)) acc' (wipeE e4 vs) else cpG ft ftst bd vs (ds.drop (i + 1)) acc (wipeE e3 vs)) = .ok accZ envZ := G'
        refine ptst (g.lock p) F2 H2 σ3 e2 _ S3 ?_
        rw [ct]
        intro F3 H3 σ4 hs4 S4 E4
        subst hs4
        obtain ⟨o, hx⟩ := hx
        have hx3 := E4.lk p _ (.inr rfl) (E2.lk p _ (.inr rfl) hx)
        have nf3 : ¬ F3 p := fun z => nf (E2.l p (.inr rfl) (E4.l p (.inr rfl) z))
        have rx3 := hAcc _ _ _ _ _ (hAcc _ _ _ _ _ rx E2) E4
        have EE := (E'.trans E2.unlock).trans E4.unlock
        cases b with
        | false =>
          rw [if_neg Bool.false_ne_true] at G' ⊢
          exact fin5 F3 H3 _ e3 acc S4 (fun _ _ => rfl) rfl EE nf3 ⟨_, hx3⟩ rx3 G'
        | true =>
          rw [if_pos rfl] at G' ⊢
          cases ce : bd acc e3 with
          | bad => rw [ce] at G'; cases G'
          | exc x e => rw [ce] at G'; cases G'
          | ok acc' e4 =>
            rw [ce] at G'
            have G' : cpG ft ftst bd vs (ds.drop (i + 1)) acc' (wipeE e4 vs) = .ok accZ envZ := G'
            exact pmid F3 H3 _ e3 acc acc' e4 _ S4 nf3 ⟨_, hx3⟩ rx3 ce fun F5 H5 σ5 S5 lk5 ln5 E5 n5 h5 a5 => fin5 F5 H5 σ5 e4 acc' S5 lk5 ln5 (EE.trans E5) n5 h5 a5 G'
  · have e : i = ds.length := by omega
    subst e
    rw [List.drop_length] at G'
    cases G'
    exact .inl ⟨wk.stop F' H' E', fin F' H' S' E' nf hx rx hno⟩
/-- out of the block -/
theorem St8.out {σ1 : St} {envZ : En} {F' : Addr → Prop} {H' : Hp} {vs : List Nat} {p : Addr} (S' : St8 T (g.lock p) F' H' (wipe σ1 vs) envZ) (hno : ∀ i ∈ vs, ∀ s, envZ[i]? = some s → s = .no) : St8 T g F' H' σ1 envZ ∧ ¬ Roots σ1 envZ p := by
  refine ⟨⟨by rw [S'.len, wipe_length], fun j s e => ?_, fun j k s s' a jk e e' hs hs' lj => ?_, S'.fdom, S'.fnew, fun a h => S'.ldom a (.inl h), S'.wdom, S'.zdom, S'.keep⟩, ?_⟩
  · by_cases hj : j ∈ vs
    · rw [hno j hj s e]; exact .no
    · have r := S'.unlock.sl j s e
      rw [look_wipe, if_neg hj] at r
      exact r
  · by_cases hj : j ∈ vs
    · rw [hno j hj s e] at hs; cases hs
    · by_cases hk : k ∈ vs
      · rw [hno k hk s' e'] at hs'; cases hs'
      · have z := S'.dis j k s s' a jk e e' hs hs' (by rw [look_wipe, if_neg hj]; exact lj)
        rw [look_wipe, if_neg hk] at z
        exact z
  · rintro ⟨j, s, e, hs, l⟩
    have hj : j ∉ vs := fun hj => by rw [hno j hj s e] at hs; cases hs
    obtain ⟨a, d, h1, _, _, h4, _⟩ := (S'.sl j s e).root hs
    rw [look_wipe, if_neg hj, l] at h1
    cases h1
    exact h4 (.inr rfl)
/-- what stands at the new thing is held to -/
theorem St8.pokeL {F : Addr → Prop} {H : Hp} {σ : St} {env : En} {p : Addr} {o : HO} (S : St8 T (g.lock p) F H σ env) (hp : H p = some o) (nt : ∀ xs, o ≠ .tup xs) (nf : ¬ F p) (n2 : ¬ g.L p) (n3 : g.H0 p = none) (o' : HO) : St8 T (g.lock p) F (upd H p o') σ env ∧ Ext g F H F (upd H p o') := by
  have nr := lock_nr S
  obtain ⟨S6, E6⟩ := S.unlock.poke ⟨_, hp⟩ (fun xs e => by rw [hp] at e; exact nt xs (Option.some.inj e)) nf n2 n3 nr o'
  exact ⟨S6.lock ⟨_, upd_same⟩ nr, E6⟩
theorem lcE {gt : TG} {tt : TT} {te : TE} {vs : List Nat} {ft : MG} {ftst : M Bool} {felt : M D}
    (pt : ∀ g F H σ env d v Q env', St8 T g F H σ env → Rep T F H d v → ft d env = some env' → (∀ σ', St8 T g F H σ' env' → (∀ i, i ∉ vs → look σ' i = look σ i) → wipe σ' vs = wipe σ vs → Q σ' H) → gt v σ H Q)
    (ptst : ∀ g F H σ env Q, St8 T g F H σ env → TGo T g W0 F H σ Q (ftst env) → tt σ H Q)
    (pelt : ∀ g F H σ env Q, St8 T g F H σ env → EG T g W0 (RepR T) F H σ Q (felt env) → te σ H Q)
    {σ1 : St} {e1 : En} {Q : VK} (wk : WkE T g F1 H1 J ds) (S1 : St8 T g F1 H1 σ1 e1) {accZ : List D} {envZ : En} (co : cpG ft ftst (bdE felt) vs ds [] (wipeE e1 vs) = .ok accZ envZ)
    (fin : ∀ F' H' v, St8 T g F' H' σ1 envZ → Ext g F1 H1 F' H' → OwnR T g F' H' σ1 envZ (.lst accZ) v → Q v H') (p : Addr) (hp : H1 p = none) :
    ∃ U : Nat → Nat → Hp → Prop, (∃ m, U 0 m (upd H1 p (.lst []))) ∧ ∀ i m H, U i m H →
      (J.stop i H ∧ Q (.ref p) H) ∨ (J.go i H ∧ ∃ Nx : Hp → Prop, (∀ H', Nx H' → ∃ m', m' < m ∧ U (i + 1) m' H') ∧ ∀ x H', J.yld i H x H' → gt x (wipe σ1 vs) H' fun σ2 H2 => wipe σ2 vs = wipe σ1 vs ∧ tt σ2 H2 fun b H3 =>
        if b = true then te σ2 H3 fun y H4 => ∃ acc, H4 p = some (.lst acc) ∧ acc.length < sizeLine ∧ Nx (upd H4 p (.lst (acc ++ [y]))) else Nx H3) := by
  have SW := S1.wiped (σ2 := wipe σ1 vs) vs (wipe_wipe σ1 vs) (wipe_length σ1 vs)
  obtain ⟨SL, EL⟩ := SW.loose hp (.lst [])
  obtain ⟨n1, n2, n3, n4, n5⟩ := SW.free hp
  have nr := SW.noroot hp
  refine ⟨CInv T g p (fun F H acc => ∃ xs, H p = some (.lst xs) ∧ RepL T F H acc xs) F1 H1 σ1 vs (cpG ft ftst (bdE felt) vs) ds accZ envZ, ⟨ds.length, by simp, Nat.zero_le _, F1, wipeE e1 vs, [], SL.lock ⟨_, upd_same⟩ nr, EL, n1, ⟨_, upd_same⟩, ⟨[], upd_same, .nil⟩, fun i hi s e => ?_, co⟩, ?_⟩
  · rcases wipeE_get e with ⟨_, z⟩ | ⟨z, _⟩
    · exact z
    · exact absurd hi z
  refine cp_turns (g := g) (fun F H F' H' acc ⟨xs, h, r⟩ E => ⟨xs, E.lk p _ (.inr rfl) h, r.mono E.f E.k⟩) pt ptst wk (fun F H σ env acc acc' env' Nx S nf hx rx ce k => ?_) (fun F' H' S' E' nf hx rx hno => ?_)
  · obtain ⟨xs, hx, rx⟩ := rx
    unfold bdE at ce
    cases c : felt env with
    | bad => rw [c] at ce; cases ce
    | exc x e => rw [c] at ce; cases ce
    | ok y e4 =>
      rw [c] at ce
      have ce : (if acc.length < big then Out.ok (acc ++ [y]) e4 else .bad) = .ok acc' env' := ce
      by_cases hb : acc.length < big
      · rw [if_pos hb] at ce
        cases ce
        refine pelt (g.lock p) F H σ env _ S ?_
        rw [c]
        intro F4 H4 σ5 hs5 S5 E5 v rv
        subst hs5
        have hx4 := E5.lk p _ (.inr rfl) hx
        have nf4 : ¬ F4 p := fun z => nf (E5.l p (.inr rfl) z)
        have rx4 := rx.mono E5.f E5.k
        obtain ⟨S6, E6⟩ := S5.pokeL hx4 (fun xs e => by cases e) nf4 n2 n3 (.lst (xs ++ [v]))
        exact ⟨xs, hx4, Nat.lt_of_lt_of_le (by rw [← rx4.length]; exact hb) big_line, k F4 _ σ5 S6 (fun _ _ => rfl) rfl (E5.unlock.trans E6) nf4 ⟨_, upd_same⟩ ⟨xs ++ [v], upd_same, (rx4.snoc rv).mono E6.f E6.k⟩⟩
      · rw [if_neg hb] at ce; cases ce
  · obtain ⟨xs, hx, rx⟩ := rx
    obtain ⟨back, rootp⟩ := S'.out hno
    exact fin F' H' _ back E' ⟨p, rfl, nf, n2, n3, rootp, .lst hx rx⟩
theorem dcE {gt : TG} {tt : TT} {tk tv : TE} {vs : List Nat} {ft : MG} {ftst : M Bool} {fk fv : M D}
    (pt : ∀ g F H σ env d v Q env', St8 T g F H σ env → Rep T F H d v → ft d env = some env' → (∀ σ', St8 T g F H σ' env' → (∀ i, i ∉ vs → look σ' i = look σ i) → wipe σ' vs = wipe σ vs → Q σ' H) → gt v σ H Q)
    (ptst : ∀ g F H σ env Q, St8 T g F H σ env → TGo T g W0 F H σ Q (ftst env) → tt σ H Q)
    (pk : ∀ g F H σ env Q, St8 T g F H σ env → EG T g W0 (RepR T) F H σ Q (fk env) → tk σ H Q)
    (pv : ∀ g F H σ env Q, St8 T g F H σ env → EG T g W0 (RepR T) F H σ Q (fv env) → tv σ H Q)
    {σ1 : St} {e1 : En} {Q : VK} (wk : WkE T g F1 H1 J ds) (S1 : St8 T g F1 H1 σ1 e1) {accZ : List (List Key × D)} {envZ : En} (co : cpG ft ftst (bdK fk fv) vs ds [] (wipeE e1 vs) = .ok accZ envZ)
    (fin : ∀ F' H' v, St8 T g F' H' σ1 envZ → Ext g F1 H1 F' H' → OwnR T g F' H' σ1 envZ (.dct accZ) v → Q v H') (p : Addr) (hp : H1 p = none) :
    ∃ U : Nat → Nat → Hp → Prop, (∃ m, U 0 m (upd H1 p (.dT []))) ∧ ∀ i m H, U i m H →
      (J.stop i H ∧ Q (.ref p) H) ∨ (J.go i H ∧ ∃ Nx : Hp → Prop, (∀ H', Nx H' → ∃ m', m' < m ∧ U (i + 1) m' H') ∧ ∀ x H', J.yld i H x H' → gt x (wipe σ1 vs) H' fun σ2 H2 => wipe σ2 vs = wipe σ1 vs ∧ tt σ2 H2 fun b H3 =>
        if b = true then tk σ2 H3 fun y H4 => tv σ2 H4 fun z H5 => ∃ b kvs k, y = .ref b ∧ H5 b = some (.tup (k.map kV)) ∧ H5 p = some (.dT kvs) ∧ kvs.length < sizeLine ∧ Nx (upd H5 p (.dT (putK kvs k z))) else Nx H3) := by
  have SW := S1.wiped (σ2 := wipe σ1 vs) vs (wipe_wipe σ1 vs) (wipe_length σ1 vs)
  obtain ⟨SL, EL⟩ := SW.loose hp (.dT [])
  obtain ⟨n1, n2, n3, n4, n5⟩ := SW.free hp
  have nr := SW.noroot hp
  refine ⟨CInv T g p (fun F H acc => ∃ xs, H p = some (.dT xs) ∧ RepT T F H acc xs) F1 H1 σ1 vs (cpG ft ftst (bdK fk fv) vs) ds accZ envZ, ⟨ds.length, by simp, Nat.zero_le _, F1, wipeE e1 vs, [], SL.lock ⟨_, upd_same⟩ nr, EL, n1, ⟨_, upd_same⟩, ⟨[], upd_same, .nil⟩, fun i hi s e => ?_, co⟩, ?_⟩
  · rcases wipeE_get e with ⟨_, z⟩ | ⟨z, _⟩
    · exact z
    · exact absurd hi z
  refine cp_turns (g := g) (fun F H F' H' acc ⟨xs, h, r⟩ E => ⟨xs, E.lk p _ (.inr rfl) h, r.mono E.f E.k⟩) pt ptst wk (fun F H σ env acc acc' env' Nx S nf hx rx ce k => ?_) (fun F' H' S' E' nf hx rx hno => ?_)
  · obtain ⟨xs, hx, rx⟩ := rx
    unfold bdK at ce
    cases c : fk env with
    | bad => rw [c] at ce; cases ce
    | exc x e => rw [c] at ce; cases ce
    | ok kd e4 =>
      rw [c] at ce
      have ce : ((fv e4).nox.bind fun v e2 => match keyOf kd with
        | some kk => if acc.length < big then Out.ok (putT acc kk v) e2 else .bad
        | none => .bad) = .ok acc' env' := ce
      refine pk (g.lock p) F H σ env _ S ?_
      rw [c]
      intro F4 H4 σ5 hs5 S5 E5 vk rk
      subst hs5
      cases c2 : fv e4 with
      | bad => rw [c2] at ce; cases ce
      | exc x e => rw [c2] at ce; cases ce
      | ok y e5 =>
        rw [c2] at ce
        have ce : (match keyOf kd with
          | some kk => if acc.length < big then Out.ok (putT acc kk y) e5 else .bad
          | none => .bad) = .ok acc' env' := ce
        cases ck : keyOf kd with
        | none => rw [ck] at ce; cases ce
        | some kk =>
          rw [ck] at ce
          have ce : (if acc.length < big then Out.ok (putT acc kk y) e5 else .bad) = .ok acc' env' := ce
          by_cases hb : acc.length < big
          · rw [if_pos hb] at ce
            cases ce
            refine pv (g.lock p) F4 H4 σ5 e4 _ S5 ?_
            rw [c2]
            intro F6 H6 σ6 hs6 S6 E6 v rv
            subst hs6
            have EE := E5.trans E6
            have hx4 := EE.lk p _ (.inr rfl) hx
            have nf4 : ¬ F6 p := fun z => nf (EE.l p (.inr rfl) z)
            have rx4 := rx.mono EE.f EE.k
            obtain ⟨b, rfl, hkb⟩ := keyOf_rep (.inl (rk.mono E6.f E6.k)) ck
            obtain ⟨S7, E7⟩ := S6.pokeL hx4 (fun xs e => by cases e) nf4 n2 n3 (.dT (putK xs kk v))
            exact ⟨b, xs, kk, rfl, hkb, hx4, Nat.lt_of_lt_of_le (by rw [← rx4.length]; exact hb) big_line, k F6 _ σ6 S7 (fun _ _ => rfl) rfl (EE.unlock.trans E7) nf4 ⟨_, upd_same⟩ ⟨_, upd_same, (rx4.put kk rv).mono E7.f E7.k⟩⟩
          · rw [if_neg hb] at ce; cases ce
  · obtain ⟨xs, hx, rx⟩ := rx
    obtain ⟨back, rootp⟩ := S'.out hno
    exact fin F' H' _ back E' ⟨p, rfl, nf, n2, n3, rootp, .dct hx rx⟩
end
end Pu
namespace Pu
open PySem PySem.Spec L2
open PyProof.Rows hiding St
section
/-- a walk over data that need no lock, over a locked dict, over a dict that is to be locked -/
structure JR (X : Cx) (T : Tx) (F1 : Addr → Prop) (H1 : Hp) (ds : List D) (R : It → Hp → Prop) : Prop where
  p : ∀ J, Wk T F1 H1 J ds → R J H1
  l : ∀ J a od xs, F1 a → H1 a = some (.frz od (.dT xs)) → WkD T F1 H1 a J ds → R J H1
  u : ∀ J a od xs, F1 a → H1 a = some (.dT xs) → (∀ o' u', X.H_0 a ≠ some (.frz o' u')) → WkD T F1 (upd H1 a (.frz od (.dT xs))) a J ds → R J (upd H1 a (.frz od (.dT xs)))
structure PXJ (X : Cx) (T : Tx) (W : WX) (tg iter : Expr) (f : M (List D)) : Prop where
  ex : ∃ wi, PI X tg iter wi ∧ ∀ g F H σ env R, St8 T g F H σ env → Goal T g W F H (· = σ) (fun F1 H1 _ _ ds => JR X T F1 H1 ds R) (f env) → wi σ H R
variable {X : Cx} {T : Tx} {W : WX}
theorem PXI.j {tg iter : Expr} {f : M (List D)} (h : PXI X T W tg iter f) : PXJ X T W tg iter f := by
  obtain ⟨wi, q, p⟩ := h.ex
  exact ⟨wi, q, fun g F H σ env R S G => p g F H σ env R S (G.mono (fun _ h => h) fun ds e1 F1 H1 σ1 _ _ _ _ jr => jr.p)⟩
def itemsU : D → Option (List D)
  | .dct kvs => some (keysK kvs)
  | d => itemsD d
def iAnyU (fe : M D) : M (List D) := fun env => (fe env).bind fun d e => Out.of (itemsU d) e
def iItm (fe : M D) : M (List D) := fun env => (fe env).bind fun d e => match d with
  | .dct kvs => .ok (itemsK kvs) e
  | _ => .bad
theorem itemsU_not {d : D} (h : isDct d = false) : itemsU d = itemsD d := by
  cases d with
  | dct kvs => cases h
  | _ => rfl
theorem dct_core {g : G} {F F' : Addr → Prop} {H' : Hp} {kvs : List (List Key × D)} {v : V} {ds : List D} {R : It → Hp → Prop} {JJ : Addr → Obj → List (List Key × V) → It} (hwk : ∀ {F H a od xs}, H a = some (.frz od (.dT xs)) → RepT T F H kvs xs → WkD T F H a (JJ a od xs) ds)
    (jr : JR X T F' H' ds R) (r : Rep T F' H' (.dct kvs) v) {P : Hp → Prop} (hP : ∀ a od xs H, v = .ref a → H a = some (.frz od (.dT xs)) → R (JJ a od xs) H → P H) : P H' ∨ ∃ d u, H' d = some u ∧ Mut (some u) ∧ ∀ od, (∀ o' u', X.H_0 d ≠ some (.frz o' u')) → P (upd H' d (.frz od u)) := by
  cases r with
  | @dct a _ xs fa ha ra =>
    rcases ha with ha | ⟨od, ha⟩
    · refine .inr ⟨a, .dT xs, ha, trivial, fun od hn => hP a od xs _ rfl upd_same (jr.u _ a od xs fa ha hn (hwk upd_same (ra.mono (fun _ h => h) (kp_lock ha od))))⟩
    · exact .inl (hP a od xs _ rfl ha (jr.l _ a od xs fa ha (hwk ha ra)))
theorem PXJ.any {tg e : Expr} {fe : M D} (hS : ScK X.K T) (he : PX X T W e fe) : PXJ X T W tg e (iAnyU fe) := by
  obtain ⟨w1, q1, p1⟩ := (PXI.any (tg := tg) hS he).ex
  obtain ⟨te, qe, pe⟩ := he.ex
  refine ⟨_, pi_or q1 (pi_keys (pe_lkA qe)), fun g F H σ env R S G => ?_⟩
  unfold iAnyU at G
  have left : (∀ d e1, fe env = .ok d e1 → isDct d = false) → w1 σ H R := fun hn => by
    refine p1 g F H σ env R S ?_
    unfold iAny
    cases c : fe env with
    | bad => rw [c] at G; exact G.elim
    | exc x e1 => rw [c] at G; exact G
    | ok d e1 =>
      rw [c] at G
      have G : Goal T g W F H (· = σ) (fun F1 H1 _ _ ds => JR X T F1 H1 ds R) (Out.of (itemsU d) e1) := G
      rw [itemsU_not (hn d e1 c)] at G
      exact G.mono (fun _ h => h) fun ds e1 F1 H1 σ1 _ _ _ _ jr => jr.p
  cases c : fe env with
  | bad => rw [c] at G; exact G.elim
  | exc x e1 => exact .inl (left fun d e2 h => by rw [c] at h; cases h)
  | ok d e1 =>
    cases hd : isDct d with
    | false => exact .inl (left fun d' e2 h => by rw [c] at h; cases h; exact hd)
    | true =>
      cases d with
      | dct kvs =>
        refine .inr (pe g F H σ env _ S ?_)
        rw [c] at G ⊢
        intro F' H' σ' hs S' E' v r
        exact dct_core (g := g) (F := F) (JJ := Itkt) (P := fun H1 => ∃ d o, v = V.ref d ∧ ((∃ kvs, H1 d = some (.frz o (.dK kvs)) ∧ R (Itk d o kvs) H1) ∨ ∃ kvs, H1 d = some (.frz o (.dT kvs)) ∧ R (Itkt d o kvs) H1)) (fun h r => wk_keysK h r) (G F' H' σ' hs S' E') r fun a od xs H ev h q => ⟨a, od, ev, .inr ⟨xs, h, q⟩⟩
      | _ => cases hd
theorem PXJ.items {e : Expr} {fe : M D} {elts : List Expr} {kk : Nat} {tpos apos cpos : Pos} (he : PX X T W e fe) (hbase : attributeBase e "items" X.env (eval e X.env) = eval e X.env := by rfl) (hline : (apos.endLine == cpos.line) = true := by rfl) :
    PXJ X T W (.Tuple elts kk tpos) (.Call (.Attribute e "items" apos) [] [] cpos) (iItm fe) := by
  obtain ⟨te, qe, pe⟩ := he.ex
  refine ⟨_, pi_itemsT (pe_lkA qe) hbase hline, fun g F H σ env R S G => pe g F H σ env _ S (Goal.bind (fun _ h => h) G fun d e1 F1 H1 σ1 _ hs S1 E1 G1 v r => ?_)⟩
  cases d with
  | dct kvs => exact dct_core (g := g) (F := F) (JJ := Itit) (P := fun H1 => ∃ d o kvs, v = V.ref d ∧ H1 d = some (.frz o (.dT kvs)) ∧ R (Itit d o kvs) H1) (fun h r => wk_itemsK h r) (G1 F1 H1 σ1 hs S1 .refl) r fun a od xs H ev h q => ⟨a, od, xs, ev, h, q⟩
  | _ => exact G1.elim

/-! ## the three ways to a goal under a lock -/
theorem own_more {g : G} {a : Addr} {F : Addr → Prop} {H : Hp} {σ : St} {env : En} {d : D} {v : V} (r : OwnR T (g.more a) F H σ env d v) : OwnR T g F H σ env d v := by
  obtain ⟨b, ev, n1, n2, n3, n4, c⟩ := r.ex
  exact ⟨b, ev, n1, fun z => n2 (.inl z), n3, n4, c⟩
theorem own_unlock {g : G} {a : Addr} {F : Addr → Prop} {H : Hp} {σ : St} {env : En} {d : D} {v : V} {od : Obj} {xs : List (List Key × V)} (fa : F a) (h : H a = some (.frz od (.dT xs))) (r : OwnR T (g.lockZ a) F H σ env d v) : OwnR T g F (upd H a (.dT xs)) σ env d v := by
  obtain ⟨b, ev, n1, n2, n3, n4, c⟩ := r.ex
  exact ⟨b, ev, n1, fun z => n2 (.inl z), n3, n4, c.mono (fun _ h => h) (kp_unlock h) fun o ho => by rw [upd_ne (neF n1 fa)]; exact ho⟩
theorem un_st {g : G} {F1 F' : Addr → Prop} {H1 H' : Hp} {σ1 σ' : St} {e1 env' : En} {a : Addr} {od : Obj} {xs : List (List Key × V)} (S1 : St8 T g F1 H1 σ1 e1) (fa : F1 a) (ha : H1 a = some (.dT xs)) (S' : St8 T (g.lockZ a) F' H' σ' env') (E' : Ext (g.lockZ a) F1 (upd H1 a (.frz od (.dT xs))) F' H') :
    H' a = some (.frz od (.dT xs)) ∧ St8 T g F' (upd H' a (.dT xs)) σ' env' ∧ Ext g F1 H1 F' (upd H' a (.dT xs)) := by
  have h : H' a = some (.frz od (.dT xs)) := E'.lk a _ (.inr rfl) upd_same
  refine ⟨h, S'.unlockZ h (E'.f a fa) fun o h0 w z => ?_, ext_unlock E' ha h⟩
  have := S1.keep a o h0 w z
  rw [ha] at this
  cases this
  rfl
/-- what a comprehension comes to, however it walks -/
theorem jr_own {g : G} {F1 : Addr → Prop} {H1 : Hp} {σ1 : St} {e1 : En} {ds : List D} {dZ : D} {envZ : En} {Q : VK} {Rest : VK → It → Hp → Prop} (S1 : St8 T g F1 H1 σ1 e1) (G1 : EG T g W (OwnR T g) F1 H1 σ1 Q (.ok dZ envZ))
    (core : ∀ (g' : G) (H : Hp) (J : It) (Q' : VK), WkE T g' F1 H J ds → St8 T g' F1 H σ1 e1 → (∀ F' H' v, St8 T g' F' H' σ1 envZ → Ext g' F1 H F' H' → OwnR T g' F' H' σ1 envZ dZ v → Q' v H') → Rest Q' J H) : JR X T F1 H1 ds (Rest fun v H' => Fre X H' (Q v)) where
  p := fun J wk => core g H1 J _ wk.e S1 fun F' H' v S' E' r => .inl (G1 F' H' σ1 rfl S' E' v r)
  l := fun J a od xs fa ha wk => core (g.more a) H1 J _ (wk.e (.inr rfl) ha) (S1.more ⟨_, ha⟩ fun r => (S1.roots r).1 fa) fun F' H' v S' E' r => .inl (G1 F' H' σ1 rfl S'.less.1 E'.less v (own_more r))
  u := fun J a od xs fa ha hn wk => core (g.lockZ a) _ J _ (wk.e (.inr rfl) upd_same) (S1.lockZ fa ha od) fun F' H' v S' E' r => by
    obtain ⟨h, S2, E2⟩ := un_st S1 fa ha S' E'
    exact .inr ⟨a, od, .dT xs, h, hn, G1 F' _ σ1 rfl S2 E2 v (own_unlock (E'.f a fa) h r)⟩
theorem lcJ_read {wi : TI} {gt : TG} {tt : TT} {te : TE} {vs : List Nat} {ft : MG} {fi : M (List D)} {ftst : M Bool} {felt : M D}
    (pi : ∀ g F H σ env R, St8 T g F H σ env → Goal T g W F H (· = σ) (fun F1 H1 _ _ ds => JR X T F1 H1 ds R) (fi env) → wi σ H R)
    (pt : ∀ g F H σ env d v Q env', St8 T g F H σ env → Rep T F H d v → ft d env = some env' → (∀ σ', St8 T g F H σ' env' → (∀ i, i ∉ vs → look σ' i = look σ i) → wipe σ' vs = wipe σ vs → Q σ' H) → gt v σ H Q)
    (ptst : ∀ g F H σ env Q, St8 T g F H σ env → TGo T g W0 F H σ Q (ftst env) → tt σ H Q)
    (pelt : ∀ g F H σ env Q, St8 T g F H σ env → EG T g W0 (RepR T) F H σ Q (felt env) → te σ H Q)
    {g : G} {F : Addr → Prop} {H : Hp} {σ : St} {env : En} {Q : VK} (S : St8 T g F H σ env) (G : EG T g W (OwnR T g) F H σ Q (eLc ft fi ftst felt vs env)) : tLc wi gt tt te vs σ H (fun v H' => Fre X H' (Q v)) := by
  refine pi g F H σ env _ S (Goal.bind (fun _ h => h) G fun ds e1 F1 H1 σ1 _ hs S1 E1 G1 => ?_)
  subst hs
  rw [lcL_cp] at G1
  cases co : cpG ft ftst (bdE felt) vs ds [] (wipeE e1 vs) with
  | bad => rw [co] at G1; exact G1.elim
  | exc x e =>
    have z := cpG_nox (tg := ft) (tst := ftst) (bd := bdE felt) (vs := vs) ds [] (wipeE e1 vs)
    rw [co] at z
    cases z
  | ok accZ envZ =>
    rw [co] at G1
    exact jr_own S1 G1 fun g' H J Q' wk S fin => lcE pt ptst pelt wk S co fin
theorem dcJ_read {wi : TI} {gt : TG} {tt : TT} {tk tv : TE} {vs : List Nat} {ft : MG} {fi : M (List D)} {ftst : M Bool} {fk fv : M D}
    (pi : ∀ g F H σ env R, St8 T g F H σ env → Goal T g W F H (· = σ) (fun F1 H1 _ _ ds => JR X T F1 H1 ds R) (fi env) → wi σ H R)
    (pt : ∀ g F H σ env d v Q env', St8 T g F H σ env → Rep T F H d v → ft d env = some env' → (∀ σ', St8 T g F H σ' env' → (∀ i, i ∉ vs → look σ' i = look σ i) → wipe σ' vs = wipe σ vs → Q σ' H) → gt v σ H Q)
    (ptst : ∀ g F H σ env Q, St8 T g F H σ env → TGo T g W0 F H σ Q (ftst env) → tt σ H Q)
    (pk : ∀ g F H σ env Q, St8 T g F H σ env → EG T g W0 (RepR T) F H σ Q (fk env) → tk σ H Q)
    (pv : ∀ g F H σ env Q, St8 T g F H σ env → EG T g W0 (RepR T) F H σ Q (fv env) → tv σ H Q)
    {g : G} {F : Addr → Prop} {H : Hp} {σ : St} {env : En} {Q : VK} (S : St8 T g F H σ env) (G : EG T g W (OwnR T g) F H σ Q (eDc ft fi ftst fk fv vs env)) : tDcT wi gt tt tk tv vs σ H (fun v H' => Fre X H' (Q v)) := by
  refine pi g F H σ env _ S (Goal.bind (fun _ h => h) G fun ds e1 F1 H1 σ1 _ hs S1 E1 G1 => ?_)
  subst hs
  cases co : cpG ft ftst (bdK fk fv) vs ds [] (wipeE e1 vs) with
  | bad => rw [co] at G1; exact G1.elim
  | exc x e => rw [co] at G1; exact G1.elim
  | ok accZ envZ =>
    rw [co] at G1
    exact jr_own S1 G1 fun g' H J Q' wk S fin => dcE pt ptst pk pv wk S co fin
theorem setO_goal {g : G} {F : Addr → Prop} {H : Hp} {σ : St} {env : En} {E : Ends} {i : Nat} {f : M D} (G : SGo T g W F H E (sSetO i f env)) : EG T g W (OwnR T g) F H σ (fun v H' => E.nx (σ.set i (some v)) H') (f env) := by
  refine Goal.bind (fun _ _ => trivial) G fun d e1 F1 H1 σ1 _ hs S1 E1 G1 v r => ?_
  subst hs
  split at G1
  · rename_i hl
    exact G1 F1 H1 _ trivial (set_own S1 i hl r) .refl
  · exact G1.elim
abbrev BlkA (X : Cx) (scope : Scope) (P : Cx → Prop) : Prop := ∀ (s : Shared) (H : Hp) (C : Addr) (cl : List (Str × Addr)) (fp : List Addr), P (X.blk s H scope (compEnvC scope cl C X.env) fp)
/-- [e for t in any if c] -/
theorem PXO.lcJ {elt tg iter : Expr} {ifs : List Expr} {scope : Scope} {pos : Pos} {ft : MG} {fi : M (List D)} {ftst : M Bool} {felt : M D} (own : List (Str × Nat)) (hc : X.calm = true) (hN : X.N.Nodup) (hi : PXJ X T W tg iter fi) (ok : blkC X.N X.env.scope scope own = true)
    (ht : BlkA X scope fun Y => PXC Y T (own.map (·.2)) tg ft) (htst : BlkA X scope fun Y => PXTs Y T W0 ifs ftst) (helt : BlkA X scope fun Y => PX Y T W0 elt felt) (hs : ∀ x, foldedSetIterable iter X.env x = pure x := by intro _; rfl) :
    PXO X T W (.ListComp elt [⟨tg, iter, ifs, 0⟩] scope pos) (eLc ft fi ftst felt (own.map (·.2))) := by
  obtain ⟨wi, qi, pi⟩ := hi.ex
  exact ⟨_, pe_unl (pe_lc hc hN qi (blkOk_by ok) (fun s H C cl fp => (ht s H C cl fp).canon) (fun s H C cl fp => (htst s H C cl fp).canon) (fun s H C cl fp => (helt s H C cl fp).canon) hs),
    fun g F H σ env Q S G => lcJ_read pi (fun g F H σ env d v Q env' S r e k => ⟨g, F, env, d, env', S, r, e, k⟩) (fun g F H σ env Q S G => ⟨g, F, env, S, G⟩) (fun g F H σ env Q S G => ⟨g, F, env, S, G⟩) S G⟩
theorem PXS.setLcJ (i : Nat) {y : Str} {py : Pos} {elt tg iter : Expr} {ifs : List Expr} {scope : Scope} {pos spos : Pos} {ft : MG} {fi : M (List D)} {ftst : M Bool} {felt : M D} (own : List (Str × Nat)) (hc : X.calm = true) (hN : X.N.Nodup) (hi : PXJ X T W tg iter fi) (ok : blkC X.N X.env.scope scope own = true)
    (ht : BlkA X scope fun Y => PXC Y T (own.map (·.2)) tg ft) (htst : BlkA X scope fun Y => PXTs Y T W0 ifs ftst) (helt : BlkA X scope fun Y => PX Y T W0 elt felt)
    (hsw : swapsWith (.ListComp elt [⟨tg, iter, ifs, 0⟩] scope pos) (some (.Name y py)) spos.line X.env = pure true) (hy : X.N[i]? = some y := by rfl) (hyl : X.env.scope.names.lookup y = some .local := by rfl) (hs : ∀ x, foldedSetIterable iter X.env x = pure x := by intro _; rfl) :
    PXS X T W (.Assign [.Name y py] (.ListComp elt [⟨tg, iter, ifs, 0⟩] scope pos) spos) (sSetO i (eLc ft fi ftst felt (own.map (·.2)))) := by
  obtain ⟨wi, qi, pi⟩ := hi.ex
  exact ⟨_, ps_unl (ps_setLc hc hN hy hyl hsw qi (blkOk_by ok) (fun s H C cl fp => (ht s H C cl fp).canon) (fun s H C cl fp => (htst s H C cl fp).canon) (fun s H C cl fp => (helt s H C cl fp).canon) hs),
    fun g F H σ env E S G => lcJ_read pi (fun g F H σ env d v Q env' S r e k => ⟨g, F, env, d, env', S, r, e, k⟩) (fun g F H σ env Q S G => ⟨g, F, env, S, G⟩) (fun g F H σ env Q S G => ⟨g, F, env, S, G⟩) S (setO_goal G)⟩
/-- {k: v for t in any if c} -/
theorem PXO.dcJ {kx vx tg iter : Expr} {ifs : List Expr} {scope : Scope} {pos : Pos} {ft : MG} {fi : M (List D)} {ftst : M Bool} {fk fv : M D} (own : List (Str × Nat)) (hc : X.calm = true) (hu : X.A.units + 64 < cLine) (hN : X.N.Nodup) (hi : PXJ X T W tg iter fi) (ok : blkC X.N X.env.scope scope own = true)
    (ht : BlkA X scope fun Y => PXC Y T (own.map (·.2)) tg ft) (htst : BlkA X scope fun Y => PXTs Y T W0 ifs ftst) (hk : BlkA X scope fun Y => PX Y T W0 kx fk) (hv : BlkA X scope fun Y => PX Y T W0 vx fv) (hs : ∀ x, foldedSetIterable iter X.env x = pure x := by intro _; rfl) :
    PXO X T W (.DictComp kx vx [⟨tg, iter, ifs, 0⟩] scope pos) (eDc ft fi ftst fk fv (own.map (·.2))) := by
  obtain ⟨wi, qi, pi⟩ := hi.ex
  exact ⟨_, pe_unl (pe_dcT hc (by omega) hN qi (blkOk_by ok) (fun s H C cl fp => (ht s H C cl fp).canon) (fun s H C cl fp => (htst s H C cl fp).canon) (fun s H C cl fp => (hk s H C cl fp).canon) (fun s H C cl fp => (hv s H C cl fp).canon) hs),
    fun g F H σ env Q S G => dcJ_read pi (fun g F H σ env d v Q env' S r e k => ⟨g, F, env, d, env', S, r, e, k⟩) (fun g F H σ env Q S G => ⟨g, F, env, S, G⟩) (fun g F H σ env Q S G => ⟨g, F, env, S, G⟩) (fun g F H σ env Q S G => ⟨g, F, env, S, G⟩) S G⟩
theorem PXS.setDcJ (i : Nat) {y : Str} {py : Pos} {kx vx tg iter : Expr} {ifs : List Expr} {scope : Scope} {pos spos : Pos} {ft : MG} {fi : M (List D)} {ftst : M Bool} {fk fv : M D} (own : List (Str × Nat)) (hc : X.calm = true) (hu : X.A.units + 64 < cLine) (hN : X.N.Nodup) (hi : PXJ X T W tg iter fi) (ok : blkC X.N X.env.scope scope own = true)
    (ht : BlkA X scope fun Y => PXC Y T (own.map (·.2)) tg ft) (htst : BlkA X scope fun Y => PXTs Y T W0 ifs ftst) (hk : BlkA X scope fun Y => PX Y T W0 kx fk) (hv : BlkA X scope fun Y => PX Y T W0 vx fv)
    (hsw : swapsWith (.DictComp kx vx [⟨tg, iter, ifs, 0⟩] scope pos) (some (.Name y py)) spos.line X.env = pure true) (hy : X.N[i]? = some y := by rfl) (hyl : X.env.scope.names.lookup y = some .local := by rfl) (hs : ∀ x, foldedSetIterable iter X.env x = pure x := by intro _; rfl) :
    PXS X T W (.Assign [.Name y py] (.DictComp kx vx [⟨tg, iter, ifs, 0⟩] scope pos) spos) (sSetO i (eDc ft fi ftst fk fv (own.map (·.2)))) := by
  obtain ⟨wi, qi, pi⟩ := hi.ex
  exact ⟨_, ps_unl (ps_setDcT hc (by omega) hN qi (blkOk_by ok) (fun s H C cl fp => (ht s H C cl fp).canon) (fun s H C cl fp => (htst s H C cl fp).canon) (fun s H C cl fp => (hk s H C cl fp).canon) (fun s H C cl fp => (hv s H C cl fp).canon) hs hy hyl hsw),
    fun g F H σ env E S G => dcJ_read pi (fun g F H σ env d v Q env' S r e k => ⟨g, F, env, d, env', S, r, e, k⟩) (fun g F H σ env Q S G => ⟨g, F, env, S, G⟩) (fun g F H σ env Q S G => ⟨g, F, env, S, G⟩) (fun g F H σ env Q S G => ⟨g, F, env, S, G⟩) S (setO_goal G)⟩
/-! ## for -/
def sForJ (ft : MG) (fi : M (List D)) (fb : M Fl) : M Fl := fun env => (fi env).bind fun ds e1 => (forL ft fb ds e1).nox
theorem for_coreE {g : G} {tt : TG} {tb : TS} {ft : MG} {fb : M Fl} (pt : ∀ g F H σ env d v Q env', St8 T g F H σ env → Rep T F H d v → ft d env = some env' → (∀ σ', St8 T g F H σ' env' → Q σ' H) → tt v σ H Q)
    (pb : ∀ g F H σ env E, St8 T g F H σ env → SGo T g W F H E (fb env) → tb E σ H) {F1 : Addr → Prop} {H1 : Hp} {σ1 : St} {e1 : En} {J : It} {ds : List D} {E : Ends} (wk : WkE T g F1 H1 J ds) (S1 : St8 T g F1 H1 σ1 e1) (G1 : SGo T g W F1 H1 E (forL ft fb ds e1)) :
    ∃ W : Nat → Nat → St → Hp → Prop, (∃ m, W 0 m σ1 H1) ∧ ∀ (i m : Nat) (σ : St) (H : Hp), W i m σ H → (J.stop i H ∧ E.nx σ H) ∨ (J.go i H ∧ ∃ N : St → Hp → Prop, (∀ σ' H', N σ' H' → ∃ m', m' < m ∧ W (i + 1) m' σ' H') ∧ ∀ x H', J.yld i H x H' → tt x σ H' fun σ2 H2 => tb { nx := N, rt := E.rt, bk := E.nx, ct := N } σ2 H2) := by
  refine ⟨fun i m σ' H' => m = ds.length - i ∧ i ≤ ds.length ∧ ∃ F' env', St8 T g F' H' σ' env' ∧ Ext g F1 H1 F' H' ∧ SGo T g W F' H' E (forL ft fb (ds.drop i) env'), ⟨ds.length, by simp, Nat.zero_le _, F1, e1, S1, .refl, G1⟩, ?_⟩
  rintro i m σ' H' ⟨rfl, hi, F', env', S', E', G'⟩
  by_cases hlt : i < ds.length
  · refine .inr ⟨wk.go F' H' i E' hlt, fun σ2 H2 => ∃ m', m' < ds.length - i ∧ (m' = ds.length - (i + 1) ∧ i + 1 ≤ ds.length ∧ ∃ F2 env2, St8 T g F2 H2 σ2 env2 ∧ Ext g F1 H1 F2 H2 ∧ SGo T g W F2 H2 E (forL ft fb (ds.drop (i + 1)) env2)), fun _ _ z => z, fun x H2 y => ?_⟩
    obtain ⟨F2, d, hd, S2, E2, r2⟩ := wk.yld g F' H' σ' env' i x H2 E' S' y hlt
    have ed : ds.drop i = d :: ds.drop (i + 1) := by
      rw [List.getElem?_eq_getElem hlt] at hd
      rw [List.drop_eq_getElem_cons hlt, Option.some.inj hd]
    rw [ed] at G'
    have G' : SGo T g W F' H' E (forL ft fb (d :: ds.drop (i + 1)) env') := G'
    unfold forL at G'
    cases et : ft d env' with
    | none => simp only [et] at G'; exact G'.elim
    | some e2 =>
      simp only [et] at G'
      refine pt g F2 H2 σ' env' d x _ e2 S2 r2 et fun σ3 S3 => ?_
      refine pb g F2 H2 σ3 e2 _ S3 (Goal.bind (fun _ h => h) (Goal.ext G' E2) fun fl e3 F3 H3 σ4 _ _ S4 E4 G4 => ?_)
      have step : SGo T g W F3 H3 E (forL ft fb (ds.drop (i + 1)) e3) → ∃ m', m' < ds.length - i ∧ (m' = ds.length - (i + 1) ∧ i + 1 ≤ ds.length ∧ ∃ F2 env2, St8 T g F2 H3 σ4 env2 ∧ Ext g F1 H1 F2 H3 ∧ SGo T g W F2 H3 E (forL ft fb (ds.drop (i + 1)) env2)) := fun q =>
        ⟨_, by omega, rfl, hlt, F3, e3, S4, (E'.trans E2).trans E4, q⟩
      cases fl with
      | nx => exact step G4
      | cnt => exact step G4
      | brk => exact G4 F3 H3 σ4 trivial S4 .refl
      | ret d => exact G4 F3 H3 σ4 trivial S4 .refl
      | retO d => exact G4 F3 H3 σ4 trivial S4 .refl
  · have e : i = ds.length := by omega
    subst e
    rw [List.drop_length] at G'
    exact .inl ⟨wk.stop F' H' E', G' F' H' σ' trivial S' .refl⟩
theorem FlP.imp {g : G} {F : Addr → Prop} {H : Hp} {σ : St} {env : En} {E E' : Ends} (h1 : E.nx σ H → E'.nx σ H) (h2 : E.bk σ H → E'.bk σ H) (h3 : E.ct σ H → E'.ct σ H) (h4 : ∀ v, E.rt v H → E'.rt v H) : ∀ fl, FlP T g E F H σ env fl → FlP T g E' F H σ env fl
  | .nx, p => h1 p
  | .brk, p => h2 p
  | .cnt, p => h3 p
  | .ret d, p => fun v r => h4 v (p v r)
  | .retO d, p => fun v r => h4 v (p v r)
theorem nox_goal {g : G} {F : Addr → Prop} {H : Hp} {E : Ends} {o : Out Fl} (G : SGo T g W F H E o.nox) : SGo T g W F H E o := by
  cases o with
  | exc x e => exact (show False from G).elim
  | _ => exact G
theorem PXS.forJ {tg iter : Expr} {body : List Stmt} {ft : MG} {fi : M (List D)} {fb : M Fl} {pos : Pos} (hp : PassesOwn (model X.prog X.w) X.A X.env X.xe) (hc : X.calm = true) (hi : PXJ X T W tg iter fi) (ht : PXG X T tg ft) (hb : PXSs X T W body fb)
    (hs : ∀ x', foldedSetIterable iter X.env x' = pure x' := by intro _; rfl) : PXS X T W (.For tg iter body [] pos) (sForJ ft fi fb) := by
  obtain ⟨tt, qt, pt⟩ := ht.ex
  obtain ⟨tb, qb, pb⟩ := hb.ex
  obtain ⟨wi, qi, pi⟩ := hi.ex
  refine ⟨_, ps_unl (ps_for hp hc qi qt qb hs), fun g F H σ env E S G => ?_⟩
  refine pi g F H σ env _ S (Goal.bind (fun _ _ => trivial) G fun ds e1 F1 H1 σ1 _ hs S1 E1 G1 => ?_)
  subst hs
  have up : SGo T g W F1 H1 (unlE X E) (forL ft fb ds e1) := Goal.mono (nox_goal G1) (fun _ h => h) fun fl e F' H' σ' _ _ _ _ p => FlP.imp (E := E) (E' := unlE X E) (fun q => Or.inl q) (fun q => Or.inl q) (fun q => Or.inl q) (fun v q => Or.inl q) fl p
  refine ⟨fun J wk => for_coreE pt pb wk.e S1 up, fun J a od xs fa ha wk => ?_, fun J a od xs fa ha hn wk => ?_⟩
  · exact for_coreE pt pb (g := g.more a) (wk.e (.inr rfl) ha) (S1.more ⟨_, ha⟩ fun r => (S1.roots r).1 fa) (more_goal up)
  · refine for_coreE pt pb (g := g.lockZ a) (wk.e (.inr rfl) upd_same) (S1.lockZ fa ha od) (Goal.mono (lock_goal S1 fa ha od G1) (fun _ h => h) fun fl e F' H' σ' _ _ _ _ p => FlP.imp (E := lockE a od xs E) (E' := unlE X E) ?_ ?_ ?_ ?_ fl p)
    · exact fun ⟨h, q⟩ => .inr ⟨a, od, .dT xs, h, hn, q⟩
    · exact fun ⟨h, q⟩ => .inr ⟨a, od, .dT xs, h, hn, q⟩
    · exact fun ⟨h, q⟩ => .inr ⟨a, od, .dT xs, h, hn, q⟩
    · exact fun v ⟨h, q⟩ => .inr ⟨a, od, .dT xs, h, hn, q⟩
@[simp] theorem ap_iAnyU {fe : M D} {e : En} : iAnyU fe e = (fe e).bind fun d e => Out.of (itemsU d) e := rfl
@[simp] theorem itemsU_dct (kvs : List (List Key × D)) : itemsU (.dct kvs) = some (keysK kvs) := rfl
@[simp] theorem itemsU_lst (ds : List D) : itemsU (.lst ds) = some ds := rfl
@[simp] theorem itemsU_tup (ds : List D) : itemsU (.tup ds) = some ds := rfl
@[simp] theorem ap_iItm {fe : M D} {e : En} : iItm fe e = (fe e).bind fun d e => match d with
  | .dct kvs => .ok (itemsK kvs) e
  | _ => .bad := rfl
@[simp] theorem ap_eDc {tg : MG} {fi : M (List D)} {tst : M Bool} {fk fv : M D} {vs : List Nat} {e : En} : eDc tg fi tst fk fv vs e = (fi e).bind fun ds e1 => (cpG tg tst (bdK fk fv) vs ds [] (wipeE e1 vs)).nox.bind fun acc e => .ok (.dct acc) e := rfl
@[simp] theorem ap_sForJ {ft : MG} {fi : M (List D)} {fb : M Fl} {e : En} : sForJ ft fi fb e = (fi e).bind fun ds e1 => (forL ft fb ds e1).nox := rfl
end
end Pu
/-! ## raise C(e): an error class whose __init__ sets one field -/
namespace Pu
open PySem PySem.Spec L2
open PyProof.Rows hiding St
/-- what the text says of such a class -/
structure ExI (K : PySem.W.Frag) (T : Tx) (c : String) (f : Str) : Prop where
  o : OexC K (T.cls c)
  i : PySem.W.findIn K (.ref (T.cls c)) "__init__" = some (some (.ref (T.fn (c ++ ".__init__"))))
  t : PySem.W.typeIn K (.ref (T.fn (c ++ ".__init__"))) = some (.type "function")
  n : PySem.W.findIn K (.ref (T.cls c)) f = some none
/-- what its __init__ does -/
def spXi (C : Addr) (f : Str) : Sp := fun vs H Q _ => ∃ (a : Addr) (y : V), vs = [.ref a, y] ∧ H a = some (exo a C none) ∧ ∀ dx, H dx = none → dx ≠ a → Q .non (upd (upd H dx (exd dx [(f, y)])) a (exo a C (some dx)))
theorem ok_xinit {P : Program} {w : World} {K : PySem.W.Frag} {mg : Str → Option Value} {base : Heap} {T : Tx} {c : String} {f x q sf pn : Str} {st : Stmt} {fI : Addr} {fd : FuncData} {p1 p2 p3 pos : Pos} (Y : ExI K T c f) (F : L2.Fun K x q st fI fd) (S : FnScope [sf, pn] [sf, pn] (defScope st))
    (hb : defBody st = [.Assign [.Attribute (.Name sf p1) f p2] (.Name pn p3) pos]) (hd1 : (sf == ("__debug__" : Str)) = false) (hd2 : (pn == ("__debug__" : Str)) = false) (hc1 : (sf == ("__classdict__" : Str)) = false) (hc2 : (pn == ("__classdict__" : Str)) = false)
    (hv1 : Vis (defScope st) sf) (hv2 : Vis (defScope st) pn) (k : Nat) : FnOk P w K mg base (L2.CX P w) (k + 1) fI fd [sf, pn] (spXi (T.cls c) f) := by
  refine F.okX S (fun vs H Q E h => ?_) fun cdv A outer s H vs Q E hr h => ?_
  · obtain ⟨a, y, rfl, _⟩ := h
    rfl
  · obtain ⟨a, y, rfl, ha, q⟩ := h
    rw [hb]
    refine ⟨_, pss_one (ps_ost (pe_var (i := 0) rfl hv1 hd1 hc1) (pe_var (i := 1) rfl hv2 hd2 hc2) rfl), ?_⟩
    exact ⟨y, rfl, .ref a, rfl, a, T.cls c, rfl, Y.o, Y.n, .inl ⟨ha, fun dx hn ne => q dx hn ne⟩⟩
/-- raise C(e) -/
def sRaiseX (c : String) (f : Str) (fe : M D) : M Fl := fun env => (fe env).bind fun d e => .exc ⟨c, [(f, d)]⟩ e
@[simp] theorem ap_sRaiseX {c : String} {f : Str} {fe : M D} {e : En} : sRaiseX c f fe e = (fe e).bind fun d e => .exc ⟨c, [(f, d)]⟩ e := rfl
theorem PXS.raiseX {X : Cx} {T : Tx} {W : WX} {c : String} {f x : Str} {k : Nat} {fd : FuncData} {ps : List Str} {e : Expr} {fe : M D} {p pos pos2 : Pos} (Y : ExI X.K T c f) (Fk : FnOk X.prog X.w X.K X.mg X.base (L2.CX X.prog X.w) k (T.fn (c ++ ".__init__")) fd ps (spXi (T.cls c) f)) (hr : Room (k + 1) X.A) (hb : Binds X.K fd ps [])
    (hc : X.calm = true) (gC : X.mg x = some (.ref (T.cls c))) (tk : Takes X W) (he : PX X T W e fe) (hg : Gl X x := by rfl) (hdb : (x == ("__debug__" : Str)) = false := by decide) (hs : starEach [e] X.env = [(false, eval e X.env)] := by rfl) :
    PXS X T W (.Raise (some (.Call (.Name x p) [e] [] pos)) none pos2) (sRaiseX c f fe) := by
  obtain ⟨te, qe, pe⟩ := he.ex
  refine ⟨_, ps_raise hc tk (pmk_oex (ds := []) (dvs := []) Y.o Y.i Y.t Fk hr hb .nil passL hg gC (pa_cons qe pa_nil hs) hdb hs rfl), fun g F H σ env E S G => ?_⟩
  refine pe g F H σ env _ S (Goal.bind (fun _ _ => trivial) G fun d e1 F1 H1 σ1 _ hs S1 E1 G1 v r => ?_)
  subst hs
  refine ⟨by simp, fun a ha => ⟨a, v, rfl, upd_same, fun dx hn ne => ⟨rfl, dx, [(f, v)], upd_same, ?_, ?_, ?_⟩⟩⟩
  · rw [upd_ne ne, upd_same]
  · rw [upd_ne ne] at hn; exact hn
  · have hdx : H1 dx = none := by rw [upd_ne ne] at hn; exact hn
    have eh : upd (del (upd (upd (upd H1 a (exo a (T.cls c) none)) dx (exd dx [(f, v)])) a (exo a (T.cls c) (some dx))) a) dx (.xd [(f, v)]) = upd H1 dx (.xd [(f, v)]) := by
      funext b
      by_cases h1 : b = dx
      · subst h1; rw [upd_same, upd_same]
      · rw [upd_ne h1, upd_ne h1]
        by_cases h2 : b = a
        · subst h2; rw [del_same]; exact ha.symm
        · rw [del_ne h2, upd_ne h2, upd_ne h1, upd_ne h2]
    rw [eh]
    obtain ⟨S2, E2⟩ := S1.frozen hdx (.xd [(f, v)])
    exact G1 _ _ σ1 (some dx) trivial S2 E2 (.inr ⟨by simp, dx, [(f, v)], rfl, .inr rfl, upd_same, .cons (r.mono E2.f E2.k) .nil⟩)
end Pu
namespace Pu
open PySem PySem.Spec L2
open PyProof.Rows hiding St
theorem oex_of {K : PySem.W.Frag} {C N : Addr} {nm q : Str} {bs bm sub : List Value} {sn : List Str} {ab : Bool} {col : Option Bool} {dd : Option Addr} {k0 k1 k2 k3 k5 : Option Value} (h : K.lookup C = some (excClassObj nm q C N bs bm true sn sub ab col dd k0 k1 k2 k3 k5 "ValueError.__new__")) (v : PySem.HandSPX.refsVE bm = true)
    (sa : PySem.W.findIn K (.ref C) "__setattr__" = some (some (.builtin "object.__setattr__"))) (ex : PySem.W.subIn K (.ref C) (.type "BaseException") = some true) (ty : PySem.W.typeIn K (.ref C) = some (.type "type")) (kC : PySem.W.keepIn K (.ref C) = true) : OexC K C :=
  ⟨⟨_, _, _, _, _, _, _, _, _, _, _, _, _, _, _, h, v⟩, sa, ex, ty, kC⟩
end Pu
/-! ## zip of two tuples, range with a step -/
namespace Pu
open PySem PySem.Spec L2 RZ
open PyProof.Rows hiding St
section
variable {X : Cx} {T : Tx} {W : WX}
def zipL : List D → List D → List D
  | d :: ds, e :: es => .tup [d, e] :: zipL ds es
  | _, _ => []
theorem zipL_get : ∀ (ds es : List D) (i : Nat), (zipL ds es)[i]? = (ds[i]?).bind fun d => (es[i]?).map fun e => .tup [d, e]
  | [], _, i => by simp [zipL]
  | d :: ds, [], i => by
    unfold zipL
    cases i <;> simp
  | d :: ds, e :: es, 0 => rfl
  | d :: ds, e :: es, i + 1 => by
    unfold zipL
    rw [List.getElem?_cons_succ, List.getElem?_cons_succ, List.getElem?_cons_succ, zipL_get ds es i]
theorem zipL_len : ∀ (ds es : List D), (zipL ds es).length = min ds.length es.length
  | [], _ => by simp [zipL]
  | d :: ds, [] => by simp [zipL]
  | d :: ds, e :: es => by
    unfold zipL
    rw [List.length_cons, List.length_cons, List.length_cons, zipL_len ds es]
    omega
def zipOk (ds : List D) : Bool := ds.all fun d => !evD d
theorem wk_zipT {K : PySem.W.Frag} {F : Addr → Prop} {H : Hp} {a b : Addr} {xs ys : List V} {ds es : List D} (ha : TupF F H a xs) (hb : TupF F H b ys) (ra : RepL T F H ds xs) (rb : RepL T F H es ys) (ok : zipOk ds = true) : Wk T F H (ItzT K a b) (zipL ds es) where
  go := fun F' H' i _ k hi => by
    rw [zipL_len] at hi
    obtain ⟨x, hx, _⟩ := ra.get (i := i) (d := ds[i]) (List.getElem?_eq_getElem (by omega))
    obtain ⟨y, hy, _⟩ := rb.get (i := i) (d := es[i]) (List.getElem?_eq_getElem (by omega))
    exact ⟨xs, ys, x, y, .inl (ha.kp k), .inl (hb.kp k), hx, hy⟩
  stop := fun F' H' _ k => ⟨xs, ys, .inl (ha.kp k), .inl (hb.kp k), by rw [zipL_len, ra.length, rb.length]; omega⟩
  yld := fun g F' H' σ env i x H'' hf k S y hi => by
    rw [zipL_len] at hi
    obtain ⟨p, z, u, rfl, hp, rfl, y1, y2⟩ := y
    have i1 : i < ds.length := by omega
    have i2 : i < es.length := by omega
    obtain ⟨z', hz, rz⟩ := ra.get (i := i) (d := ds[i]) (List.getElem?_eq_getElem i1)
    obtain ⟨u', hu, ru⟩ := rb.get (i := i) (d := es[i]) (List.getElem?_eq_getElem i2)
    have e1 := y1 xs (.inl (ha.kp k))
    rw [hz] at e1
    cases e1
    have e2 := y2 ys (.inl (hb.kp k))
    rw [hu] at e2
    cases e2
    have hev : evD ds[i] = false := by
      have := List.all_eq_true.mp ok ds[i] (List.getElem_mem i1)
      simpa using this
    obtain ⟨F'', S', E', r'⟩ := new_tup S hp (ds := [ds[i], es[i]]) (.cons (rz.mono hf k) (.cons (ru.mono hf k) .nil)) (by rw [evish_cons, hev]; rfl)
    exact ⟨F'', _, by rw [zipL_get, List.getElem?_eq_getElem i1, List.getElem?_eq_getElem i2]; rfl, S', E', r'⟩
def iZip (fa fb : M D) : M (List D) := fun env => (fa env).bind fun d1 e1 => (fb e1).bind fun d2 e2 => match d1, d2 with
  | .tup ds, .tup es => if zipOk ds = true then .ok (zipL ds es) e2 else .bad
  | _, _ => .bad
@[simp] theorem ap_iZip {fa fb : M D} {e : En} : iZip fa fb e = (fa e).bind fun d1 e1 => (fb e1).bind fun d2 e2 => match d1, d2 with
  | .tup ds, .tup es => if zipOk ds = true then .ok (zipL ds es) e2 else .bad
  | _, _ => .bad := rfl
theorem PXI.zip {a b : Expr} {fa fb : M D} {p pos tpos : Pos} {elts : List Expr} {kk : Nat} (ha : PX X T W a fa) (hb : PX X T W b fb) (hm : X.mg "zip" = none) (hg : Gl X "zip" := by rfl)
    (hs : starEach [a, b] X.env = (false, eval a X.env) :: starEach [b] X.env := by rfl) (hs2 : starEach [b] X.env = (false, eval b X.env) :: starEach [] X.env := by rfl) (hpl : (backTo pos (starEach [b] X.env)).any (·.1) = false := by rfl) :
    PXI X T W (.Tuple elts kk tpos) (.Call (.Name "zip" p) [a, b] [] pos) (iZip fa fb) := by
  obtain ⟨ta, qa, pa⟩ := ha.ex
  obtain ⟨tb, qb, pb⟩ := hb.ex
  refine ⟨_, pi_zipA hg hm (pa_cons qa (pa_cons qb pa_nil hs2) hs) hs hpl, fun g F H σ env R S G => pa g F H σ env _ S (Goal.bind (fun _ h => h) G fun d1 e1 F1 H1 σ1 _ hs S1 E1 G1 v1 r1 => ?_)⟩
  subst hs
  refine pb g F1 H1 σ1 e1 _ S1 (Goal.bind (fun _ h => h) G1 fun d2 e2 F2 H2 σ2 _ hs S2 E2 G2 v2 r2 => ?_)
  subst hs
  split at G2
  · rename_i ds es
    split at G2
    · rename_i ok
      obtain ⟨a, xs, rfl, ha, ra⟩ := (r1.mono E2.f E2.k).tupF
      obtain ⟨b, ys, rfl, hb, rb⟩ := r2.tupF
      exact ⟨a, b, xs, ys, rfl, .inr ⟨.inl (ha.kp .refl), .inl (hb.kp .refl), G2 F2 H2 σ2 rfl S2 .refl _ (wk_zipT ha hb ra rb ok)⟩⟩
    · exact G2.elim
  · exact G2.elim
/-! range(i, j, c), 1 ≤ c -/
def stepD (lo c : Int) (n : Nat) : List D := (List.range n).map fun i => .int (lo + (i : Nat) * c)
theorem wk_rangeC {F : Addr → Prop} {H : Hp} (lo c : Int) (n : Nat) : Wk T F H (Itc lo c n) (stepD lo c n) where
  go := fun F' H' i _ k hi => by simpa [stepD, Itc] using hi
  stop := fun F' H' _ k => by simp [stepD, Itc]
  yld := fun g F' H' σ env i x H'' hf k S y hi => by
    obtain ⟨rfl, rfl⟩ := y
    have hi : i < n := by simpa [stepD] using hi
    exact ⟨F', _, by unfold stepD; rw [List.getElem?_map, List.getElem?_range hi]; rfl, S, .refl, .int _⟩
end
end Pu
/-! heaps keep the least first -/
namespace PuH
section
variable {α : Type} {lt : α → α → Bool}
structure Ord (lt : α → α → Bool) : Prop where
  asym : ∀ a b, lt a b = true → lt b a = false
  tr : ∀ a b c, lt b a = false → lt c b = false → lt c a = false
def Hp0 (lt : α → α → Bool) (xs : List α) (i : Nat) : Prop := ∀ x p, 0 < i → xs[i]? = some x → xs[(i - 1) / 2]? = some p → lt x p = false
def IsHeap (lt : α → α → Bool) (xs : List α) : Prop := ∀ i, Hp0 lt xs i
theorem swp_get {xs : List α} {i j : Nat} (hi : i < xs.length) (hj : j < xs.length) (hij : i ≠ j) (k : Nat) : (swp xs i j)[k]? = if k = j then xs[i]? else if k = i then xs[j]? else xs[k]? := by
  unfold swp
  rw [List.getElem?_eq_getElem hi, List.getElem?_eq_getElem hj]
  dsimp only
  by_cases c : k = j
  · subst c
    rw [if_pos rfl, List.getElem?_set_self (by rw [List.length_set]; exact hj)]
  · rw [if_neg c, List.getElem?_set_ne (Ne.symm c)]
    by_cases c2 : k = i
    · subst c2
      rw [if_pos rfl, List.getElem?_set_self hi]
    · rw [if_neg c2, List.getElem?_set_ne (Ne.symm c2)]
/-- the children of pos are not below what stands over pos -/
def Gp (lt : α → α → Bool) (xs : List α) (pos : Nat) : Prop := ∀ i x g, 0 < pos → 0 < i → (i - 1) / 2 = pos → xs[i]? = some x → xs[(pos - 1) / 2]? = some g → lt x g = false
theorem up_heap (O : Ord lt) : ∀ (f pos : Nat) (xs : List α), pos < f → pos < xs.length → (∀ i, i ≠ pos → Hp0 lt xs i) → Gp lt xs pos → IsHeap lt (hUp lt f pos xs)
  | 0, pos, xs, hf, _, _, _ => absurd hf (Nat.not_lt_zero _)
  | f + 1, pos, xs, hf, hl, h, hg => by
    unfold hUp
    by_cases c : pos = 0
    · rw [if_pos c]
      intro i
      by_cases ci : i = pos
      · intro x p h0
        omega
      · exact h i ci
    · rw [if_neg c]
      have hpl : (pos - 1) / 2 < xs.length := by omega
      rw [List.getElem?_eq_getElem hl, List.getElem?_eq_getElem hpl]
      dsimp only
      have ex : xs[pos]? = some xs[pos] := List.getElem?_eq_getElem hl
      have ep : xs[(pos - 1) / 2]? = some xs[(pos - 1) / 2] := List.getElem?_eq_getElem hpl
      generalize xs[pos] = x at ex
      generalize xs[(pos - 1) / 2] = p at ep
      split
      · rename_i cl
        have ne : (pos - 1) / 2 ≠ pos := by omega
        have G := swp_get hpl hl ne
        refine up_heap O f ((pos - 1) / 2) _ (by omega) (by rw [swp_len]; exact hpl) (fun i hi => ?_) ?_
        · intro y q h0 ey eq
          rw [G] at ey eq
          by_cases c1 : i = pos
          · subst c1
            rw [if_pos rfl, ep] at ey
            rw [if_neg (by omega), if_pos rfl, ex] at eq
            cases ey; cases eq
            exact O.asym _ _ cl
          · rw [if_neg c1, if_neg hi] at ey
            by_cases c2 : (i - 1) / 2 = pos
            · rw [if_pos c2, ep] at eq
              cases eq
              exact hg i y p (by omega) h0 c2 ey ep
            · rw [if_neg c2] at eq
              by_cases c3 : (i - 1) / 2 = (pos - 1) / 2
              · rw [if_pos c3, ex] at eq
                cases eq
                have z := h i c1 y p h0 ey (by rw [c3]; exact ep)
                exact O.tr x p y (O.asym _ _ cl) z
              · rw [if_neg c3] at eq
                exact h i c1 y q h0 ey eq
        · intro i y g h0 hi ei ey eg
          rw [G] at ey eg
          rw [if_neg (by omega), if_neg (by omega)] at eg
          have pg := h ((pos - 1) / 2) ne p g h0 ep eg
          by_cases c1 : i = pos
          · rw [if_pos c1, ep] at ey
            cases ey
            exact pg
          · rw [if_neg c1, if_neg (by omega)] at ey
            have z := h i c1 y p hi ey (by rw [ei]; exact ep)
            exact O.tr g p y pg z
      · rename_i cl
        intro i
        by_cases ci : i = pos
        · subst ci
          intro y q h0 ey eq
          rw [ex] at ey
          rw [ep] at eq
          cases ey; cases eq
          simpa using cl
        · exact h i ci
theorem kid_spec (O : Ord lt) {pos : Nat} {xs : List α} (hp : pos < xs.length / 2) : (hKid lt pos xs = 2 * pos + 1 ∨ hKid lt pos xs = 2 * pos + 2) ∧ hKid lt pos xs < xs.length ∧ ∀ i x k, 0 < i → (i - 1) / 2 = pos → xs[i]? = some x → xs[hKid lt pos xs]? = some k → i ≠ hKid lt pos xs → lt x k = false := by
  have h1 : 2 * pos + 1 < xs.length := by omega
  unfold hKid
  by_cases c : 2 * pos + 2 < xs.length
  · rw [if_pos c, List.getElem?_eq_getElem h1, List.getElem?_eq_getElem c]
    dsimp only
    by_cases cl : lt xs[2 * pos + 1] xs[2 * pos + 2] = true
    · rw [if_pos cl]
      refine ⟨.inl rfl, h1, fun i x k h0 ei ex ek ne => ?_⟩
      have : i = 2 * pos + 2 := by omega
      subst this
      rw [List.getElem?_eq_getElem c] at ex
      rw [List.getElem?_eq_getElem h1] at ek
      cases ex; cases ek
      exact O.asym _ _ cl
    · rw [if_neg cl]
      refine ⟨.inr rfl, c, fun i x k h0 ei ex ek ne => ?_⟩
      have : i = 2 * pos + 1 := by omega
      subst this
      rw [List.getElem?_eq_getElem h1] at ex
      rw [List.getElem?_eq_getElem c] at ek
      cases ex; cases ek
      simpa using cl
  · rw [if_neg c]
    refine ⟨.inl rfl, h1, fun i x k h0 ei ex ek ne => ?_⟩
    have hi := (List.getElem?_eq_some_iff.mp ex).1
    omega
theorem down_heap (O : Ord lt) : ∀ (f pos : Nat) (xs : List α), xs.length < f + pos → pos < xs.length → (∀ i, i ≠ pos → ¬ (0 < i ∧ (i - 1) / 2 = pos) → Hp0 lt xs i) → Gp lt xs pos → IsHeap lt (hDown lt f pos xs)
  | 0, pos, xs, hf, hl, _, _ => absurd hf (by omega)
  | f + 1, pos, xs, hf, hl, h, hg => by
    unfold hDown
    by_cases c : pos < xs.length / 2
    · rw [if_pos c]
      obtain ⟨k1, k2, k3⟩ := kid_spec O c
      generalize hKid lt pos xs = kid at k1 k2 k3
      have ne : kid ≠ pos := by omega
      have pk : (kid - 1) / 2 = pos := by omega
      have k0 : 0 < kid := by omega
      have G := swp_get k2 hl ne
      have ek : xs[kid]? = some xs[kid] := List.getElem?_eq_getElem k2
      generalize xs[kid] = k at ek
      refine down_heap O f kid _ (by rw [swp_len]; omega) (by rw [swp_len]; exact k2) (fun i hi hni => ?_) ?_
      · intro y q h0 ey eq
        rw [G] at ey eq
        rw [if_neg (show ¬ (i - 1) / 2 = kid from fun z => hni ⟨h0, z⟩)] at eq
        by_cases c1 : i = pos
        · subst c1
          rw [if_pos rfl, ek] at ey
          cases ey
          rw [if_neg (by omega)] at eq
          exact hg kid k q h0 k0 pk ek eq
        · rw [if_neg c1, if_neg hi] at ey
          by_cases c2 : (i - 1) / 2 = pos
          · rw [if_pos c2, ek] at eq
            cases eq
            exact k3 i y k h0 c2 ey ek hi
          · rw [if_neg c2] at eq
            exact h i c1 (fun z => c2 z.2) y q h0 ey eq
      · intro i y g h0 hi ei ey eg
        rw [G] at ey eg
        rw [if_neg (by omega), if_neg (by omega)] at ey
        rw [pk, if_pos rfl, ek] at eg
        cases eg
        exact h i (by omega) (by omega) y k hi ey (by rw [ei]; exact ek)
    · rw [if_neg c]
      refine up_heap O _ pos xs (by omega) hl (fun i hi => ?_) hg
      by_cases c1 : 0 < i ∧ (i - 1) / 2 = pos
      · intro y q h0 ey eq
        have := (List.getElem?_eq_some_iff.mp ey).1
        omega
      · exact h i hi c1
theorem push_heap (O : Ord lt) {xs : List α} (v : α) (h : IsHeap lt xs) : IsHeap lt (hPush lt xs v) := by
  unfold hPush
  refine up_heap O _ _ _ (by omega) (by simp) (fun i hi => ?_) ?_
  · intro y q h0 ey eq
    have hl := (List.getElem?_eq_some_iff.mp ey).1
    rw [List.length_append, List.length_singleton] at hl
    have il : i < xs.length := by omega
    rw [List.getElem?_append_left il] at ey
    rw [List.getElem?_append_left (by omega)] at eq
    exact h i y q h0 ey eq
  · intro i y g h0 hi ei ey eg
    have hl := (List.getElem?_eq_some_iff.mp ey).1
    rw [List.length_append, List.length_singleton] at hl
    omega
theorem heap_min (O : Ord lt) {xs : List α} (h : IsHeap lt xs) {m : α} (hm : xs[0]? = some m) : ∀ (i : Nat) (y : α), xs[i]? = some y → lt y m = false := by
  intro i
  induction i using Nat.strongRecOn with
  | _ i ih =>
    intro y ey
    by_cases c : i = 0
    · subst c
      rw [hm] at ey
      cases ey
      cases q : lt m m with
      | false => rfl
      | true =>
        have := O.asym m m q
        rw [q] at this
        exact this
    · have hl := (List.getElem?_eq_some_iff.mp ey).1
      have hpl : (i - 1) / 2 < xs.length := by omega
      have ep : xs[(i - 1) / 2]? = some xs[(i - 1) / 2] := List.getElem?_eq_getElem hpl
      exact O.tr m xs[(i - 1) / 2] y (ih ((i - 1) / 2) (by omega) _ ep) (h i y _ (by omega) ey ep)
theorem pop_heap (O : Ord lt) {xs r : List α} {v : α} (h : IsHeap lt xs) (hp : hPop lt xs = some (v, r)) : IsHeap lt r ∧ ∀ y ∈ xs, lt y v = false := by
  match xs, h, hp with
  | [x], h, hp =>
    have e := Option.some.inj hp
    have e1 : x = v := congrArg Prod.fst e
    have e2 : [] = r := congrArg Prod.snd e
    subst e1 e2
    refine ⟨fun i y p h0 ey => (by cases ey), fun y hy => ?_⟩
    have hy' : y = x := List.mem_singleton.mp hy
    subst hy'
    exact heap_min O h (m := y) rfl 0 y rfl
  | x :: y :: r0, h, hp =>
    have e := Option.some.inj hp
    have e1 : x = v := congrArg Prod.fst e
    have e2 : hDown lt (r0.length + 4) 0 (((x :: y :: r0).dropLast).set 0 ((y :: r0).getLast (by simp))) = r := congrArg Prod.snd e
    subst e1 e2
    refine ⟨?_, fun z hz => ?_⟩
    · refine down_heap O _ 0 _ (by simp) (by simp) (fun i hi hni => ?_) (fun i x g h0 => by omega)
      intro z q h0 ez eq
      rw [List.getElem?_set_ne (by omega)] at ez
      have c2 : 0 ≠ (i - 1) / 2 := fun z => hni ⟨h0, z.symm⟩
      rw [List.getElem?_set_ne c2] at eq
      have l1 := (List.getElem?_eq_some_iff.mp ez).1
      have l2 := (List.getElem?_eq_some_iff.mp eq).1
      rw [List.length_dropLast] at l1 l2
      rw [List.getElem?_dropLast, if_pos l1] at ez
      rw [List.getElem?_dropLast, if_pos l2] at eq
      exact h i z q h0 ez eq
    · obtain ⟨i, hi⟩ := List.getElem?_of_mem hz
      exact heap_min O h rfl i z hi
theorem pop_some {xs : List α} (h : xs ≠ []) : ∃ v r, hPop lt xs = some (v, r) := by
  match xs, h with
  | [x], _ => exact ⟨x, [], rfl⟩
  | x :: y :: r, _ => exact ⟨_, _, rfl⟩
end
end PuH
namespace Pu
open PySem PySem.Spec L2
open PyProof.Rows hiding St
/-! tables of times at cells -/
abbrev Tb := List (IP × Int)
def lk (f : Tb) (p : IP) : Option Int := (f.find? fun x => decide (x.1 = p)).map (·.2)
def ptb (f : Tb) (p : IP) (v : Int) : Tb := if (f.any fun x => decide (x.1 = p)) = true then f.map fun x => if x.1 = p then (x.1, v) else x else f ++ [(p, v)]
def kyP (p : IP) : List Key := [.inl p.1, .inl p.2]
def tbD (f : Tb) : D := .dct (f.map fun x => (kyP x.1, .int x.2))
theorem kyP_iff (p q : IP) : kyP p = kyP q ↔ p = q := by
  unfold kyP
  constructor
  · intro h
    injection h with h1 h2
    injection h2 with h2 h3
    injection h1 with h1
    injection h2 with h2
    exact Prod.ext h1 h2
  · rintro rfl; rfl
theorem keyOf_pair (p : IP) : keyOf (pairD p) = some (kyP p) := rfl
theorem keyD_pair (p : IP) : keyD (kyP p) = pairD p := rfl
theorem getT_tb (f : Tb) (p : IP) : getT (f.map fun x => (kyP x.1, D.int x.2)) (kyP p) = (lk f p).map .int := by
  unfold getT lk
  rw [List.find?_map]
  have e : ((fun z : List Key × D => decide (z.1 = kyP p)) ∘ fun x : IP × Int => (kyP x.1, D.int x.2)) = fun x => decide (x.1 = p) := by
    funext x
    exact decide_eq_decide.mpr (kyP_iff x.1 p)
  rw [e]
  cases f.find? fun x => decide (x.1 = p) <;> rfl
theorem putT_tb (f : Tb) (p : IP) (v : Int) : putT (f.map fun x => (kyP x.1, D.int x.2)) (kyP p) (.int v) = (ptb f p v).map fun x => (kyP x.1, D.int x.2) := by
  unfold putT ptb
  rw [List.any_map]
  have e : ((fun z : List Key × D => decide (z.1 = kyP p)) ∘ fun x : IP × Int => (kyP x.1, D.int x.2)) = fun x => decide (x.1 = p) := by
    funext x
    exact decide_eq_decide.mpr (kyP_iff x.1 p)
  rw [e]
  split
  · rw [List.map_map, List.map_map]
    refine List.map_congr_left fun x _ => ?_
    show (if kyP x.1 = kyP p then (kyP x.1, D.int v) else (kyP x.1, D.int x.2)) = _
    by_cases c : x.1 = p
    · simp [c]
    · have : ¬ kyP x.1 = kyP p := fun h => c ((kyP_iff _ _).mp h)
      simp [c, this]
  · rw [List.map_append]; rfl
theorem lk_cons (x : IP × Int) (f : Tb) (p : IP) : lk (x :: f) p = if x.1 = p then some x.2 else lk f p := by
  unfold lk
  by_cases c : x.1 = p
  · rw [if_pos c, List.find?_cons_of_pos (by simp [c])]; rfl
  · rw [if_neg c, List.find?_cons_of_neg (by simp [c])]
theorem lk_none_iff (f : Tb) (p : IP) : lk f p = none ↔ p ∉ f.map (·.1) := by
  induction f with
  | nil => simp [lk]
  | cons x f ih =>
    rw [lk_cons, List.map_cons, List.mem_cons]
    by_cases c : x.1 = p
    · simp [c]
    · rw [if_neg c, ih]
      have : ¬ p = x.1 := fun h => c h.symm
      simp [this]
theorem lk_some_mem {f : Tb} {p : IP} {v : Int} (h : lk f p = some v) : p ∈ f.map (·.1) := by
  cases c : decide (p ∈ f.map (·.1)) with
  | true => exact of_decide_eq_true c
  | false => rw [(lk_none_iff f p).mpr (of_decide_eq_false c)] at h; cases h
theorem any_iff (f : Tb) (p : IP) : (f.any fun x => decide (x.1 = p)) = true ↔ p ∈ f.map (·.1) := by
  simp [List.any_eq_true, List.mem_map]
theorem lk_map (f : Tb) (p q : IP) (v : Int) : lk (f.map fun x => if x.1 = p then (x.1, v) else x) q = if q = p then (lk f p).map (fun _ => v) else lk f q := by
  induction f with
  | nil => by_cases c : q = p <;> simp [lk, c]
  | cons x f ih =>
    rw [List.map_cons, lk_cons, ih, lk_cons, lk_cons]
    by_cases c : q = p
    · subst c
      by_cases d : x.1 = q
      · simp [d]
      · simp [d]
    · by_cases d : x.1 = p
      · have : ¬ p = q := fun h => c h.symm
        simp [c, d, this]
      · simp [c, d]
theorem lk_app (f : Tb) (p q : IP) (v : Int) : lk (f ++ [(p, v)]) q = (lk f q).or (if p = q then some v else none) := by
  induction f with
  | nil => rw [List.nil_append, lk_cons]; simp [lk]
  | cons x f ih =>
    rw [List.cons_append, lk_cons, lk_cons, ih]
    by_cases c : x.1 = q <;> simp [c]
theorem lk_pt (f : Tb) (p q : IP) (v : Int) : lk (ptb f p v) q = if q = p then some v else lk f q := by
  unfold ptb
  by_cases c : p ∈ f.map (·.1)
  · rw [if_pos ((any_iff f p).mpr c), lk_map]
    by_cases d : q = p
    · rw [if_pos d, if_pos d]
      cases e : lk f p with
      | none => exact absurd c ((lk_none_iff f p).mp e)
      | some u => rfl
    · rw [if_neg d, if_neg d]
  · rw [if_neg (fun h => c ((any_iff f p).mp h)), lk_app]
    by_cases d : q = p
    · subst d
      rw [(lk_none_iff f q).mpr c]
      simp
    · have : ¬ p = q := fun h => d h.symm
      rw [if_neg this, if_neg d]
      cases lk f q <;> rfl
theorem pt_keys (f : Tb) (p : IP) (v : Int) : (ptb f p v).map (·.1) = if p ∈ f.map (·.1) then f.map (·.1) else f.map (·.1) ++ [p] := by
  unfold ptb
  by_cases c : p ∈ f.map (·.1)
  · rw [if_pos ((any_iff f p).mpr c), if_pos c, List.map_map]
    refine List.map_congr_left fun x _ => ?_
    show (if x.1 = p then (x.1, v) else x).1 = x.1
    split <;> rfl
  · rw [if_neg (fun h => c ((any_iff f p).mp h)), if_neg c, List.map_append]; rfl
theorem nd_le {α : Type} [DecidableEq α] : ∀ {l u : List α}, l.Nodup → (∀ x ∈ l, x ∈ u) → l.length ≤ u.length
  | [], _, _, _ => Nat.zero_le _
  | x :: l, u, h, s => by
    obtain ⟨h1, h2⟩ := List.nodup_cons.mp h
    have hx := s x List.mem_cons_self
    have ih := nd_le (u := u.erase x) h2 fun y hy => (List.mem_erase_of_ne (fun (e : y = x) => h1 (e ▸ hy))).mpr (s y (List.mem_cons_of_mem _ hy))
    rw [List.length_erase_of_mem hx] at ih
    have : 0 < u.length := List.length_pos_of_mem hx
    rw [List.length_cons]
    omega
/-- the table's cells are told once, and lie in U -/
structure Tk (U : List IP) (f : Tb) : Prop where
  nd : (f.map (·.1)).Nodup
  sub : ∀ p ∈ f.map (·.1), p ∈ U
theorem Tk.le {U : List IP} {f : Tb} (h : Tk U f) : f.length ≤ U.length := by
  have := nd_le h.nd h.sub
  rwa [List.length_map] at this
theorem Tk.pt {U : List IP} {f : Tb} (h : Tk U f) {p : IP} (hp : p ∈ U) (v : Int) : Tk U (ptb f p v) := by
  by_cases c : p ∈ f.map (·.1)
  · refine ⟨?_, ?_⟩ <;> rw [pt_keys, if_pos c]
    · exact h.nd
    · exact h.sub
  · refine ⟨?_, ?_⟩ <;> rw [pt_keys, if_neg c]
    · refine List.nodup_append.mpr ⟨h.nd, by simp, fun x hx y hy => ?_⟩
      rw [List.mem_singleton.mp hy]
      exact fun z => c (z ▸ hx)
    · intro q hq
      rcases List.mem_append.mp hq with z | z
      · exact h.sub q z
      · rw [List.mem_singleton.mp z]; exact hp
theorem pt_len {f : Tb} {p : IP} (c : p ∉ f.map (·.1)) (v : Int) : (ptb f p v).length = f.length + 1 := by
  have := congrArg List.length (pt_keys f p v)
  rw [if_neg c] at this
  simpa using this
/-! ways -/
section
variable (nb : IP → List IP) (wt : IP → IP → Int)
inductive Wy (S : Tb) : IP → Int → Prop
  | base {p t} : (p, t) ∈ S → Wy S p t
  | step {p q t} : Wy S p t → q ∈ nb p → Wy S q (t + wt p q)
def Lst (S : Tb) (p : IP) (t : Int) : Prop := Wy nb wt S p t ∧ ∀ u, Wy nb wt S p u → t ≤ u
def Right (S : Tb) (f : Tb) : Prop := ∀ p, (∀ t, lk f p = some t → Lst nb wt S p t) ∧ (lk f p = none → ∀ t, ¬ Wy nb wt S p t)
variable {nb wt}
theorem Right.uniq {S f g : Tb} (h1 : Right nb wt S f) (h2 : Right nb wt S g) (p : IP) : lk f p = lk g p := by
  cases e1 : lk f p with
  | none =>
    cases e2 : lk g p with
    | none => rfl
    | some u => exact absurd ((h2 p).1 u e2).1 ((h1 p).2 e1 u)
  | some t =>
    have a := (h1 p).1 t e1
    cases e2 : lk g p with
    | none => exact absurd a.1 ((h2 p).2 e2 t)
    | some u =>
      have b := (h2 p).1 u e2
      have := a.2 u b.1
      have := b.2 t a.1
      congr 1
      omega
theorem Wy.nonneg {S : Tb} (hS : ∀ p t, (p, t) ∈ S → 0 ≤ t) (hw : ∀ p q, q ∈ nb p → 1 ≤ wt p q) {p : IP} {t : Int} (h : Wy nb wt S p t) : 0 ≤ t := by
  induction h with
  | base h => exact hS _ _ h
  | step _ h2 ih => have := hw _ _ h2; omega
theorem Wy.inU {S : Tb} {U : List IP} (hS : ∀ p t, (p, t) ∈ S → p ∈ U) (hN : ∀ p q, q ∈ nb p → q ∈ U) {p : IP} {t : Int} (h : Wy nb wt S p t) : p ∈ U := by
  cases h with
  | base h => exact hS _ _ h
  | step _ h2 => exact hN _ _ h2
/-- where every step is told, all is told -/
theorem right_of {S f : Tb} (hv : ∀ p t, lk f p = some t → Wy nb wt S p t) (hs : ∀ p t, (p, t) ∈ S → ∃ u, lk f p = some u ∧ u ≤ t) (hc : ∀ p v, lk f p = some v → ∀ q ∈ nb p, ∃ u, lk f q = some u ∧ u ≤ v + wt p q) : Right nb wt S f := by
  have key : ∀ p t, Wy nb wt S p t → ∃ u, lk f p = some u ∧ u ≤ t := fun p t h => by
    induction h with
    | base h => exact hs _ _ h
    | @step p q t _ h2 ih =>
      obtain ⟨u, e, l⟩ := ih
      obtain ⟨v, e2, l2⟩ := hc p u e q h2
      exact ⟨v, e2, by omega⟩
  refine fun p => ⟨fun t e => ⟨hv p t e, fun u hu => ?_⟩, fun e t h => ?_⟩
  · obtain ⟨v, e2, l⟩ := key p u hu
    rw [e] at e2
    cases e2
    exact l
  · obtain ⟨v, e2, _⟩ := key p t h
    rw [e] at e2
    cases e2
/-- one turn over all told cells -/
structure Turn (S f g : Tb) : Prop where
  wy : ∀ p t, lk g p = some t → Wy nb wt S p t
  mono : ∀ p v, lk f p = some v → ∃ u, lk g p = some u ∧ u ≤ v
  rel : ∀ p v, lk f p = some v → ∀ q ∈ nb p, ∃ u, lk g q = some u ∧ u ≤ v + wt p q
def Fin (nb : IP → List IP) (wt : IP → IP → Int) (S f : Tb) (p : IP) : Prop := ∃ t, lk f p = some t ∧ Lst nb wt S p t
theorem Fin.turn {S f g : Tb} (T : Turn (nb := nb) (wt := wt) S f g) {p : IP} (h : Fin nb wt S f p) : Fin nb wt S g p := by
  obtain ⟨t, e, l⟩ := h
  obtain ⟨u, e2, le⟩ := T.mono p t e
  have := l.2 u (T.wy p u e2)
  have : u = t := by omega
  subst this
  exact ⟨u, e2, l⟩
theorem Right.turn {S f g : Tb} (T : Turn (nb := nb) (wt := wt) S f g) (h : Right nb wt S f) : Right nb wt S g := by
  refine fun p => ⟨fun t e => ?_, fun e t w => ?_⟩
  · cases c : lk f p with
    | none => exact absurd (T.wy p t e) ((h p).2 c t)
    | some v =>
      obtain ⟨u, e2, l⟩ := Fin.turn T (p := p) ⟨v, c, (h p).1 v c⟩
      rw [e] at e2
      cases e2
      exact l
  · cases c : lk f p with
    | none => exact (h p).2 c t w
    | some v =>
      obtain ⟨u, e2, _⟩ := T.mono p v c
      rw [e] at e2
      cases e2
theorem fin_one {S f g : Tb} (hS : ∀ p t, (p, t) ∈ S → 0 ≤ t) (hw : ∀ p q, q ∈ nb p → 1 ≤ wt p q) (hs : ∀ p t, (p, t) ∈ S → ∃ u, lk f p = some u ∧ u ≤ t) (hf : ∀ p t, lk f p = some t → Wy nb wt S p t) (T : Turn (nb := nb) (wt := wt) S f g) {L : List IP} (hL : ∀ p ∈ L, Fin nb wt S f p) :
    ∀ (n : Nat) (q : IP) (t : Int), q ∉ L → Wy nb wt S q t → t.toNat = n → ∃ q', q' ∉ L ∧ Fin nb wt S g q' := by
  intro n
  induction n using Nat.strongRecOn with
  | _ n ih =>
    intro q t hq w hn
    by_cases c : ∃ q' t', q' ∉ L ∧ Wy nb wt S q' t' ∧ t' < t
    · obtain ⟨q', t', h1, h2, h3⟩ := c
      have := h2.nonneg hS hw
      exact ih t'.toNat (by omega) q' t' h1 h2 rfl
    · have mn : ∀ q' t', q' ∉ L → Wy nb wt S q' t' → t ≤ t' := fun q' t' h1 h2 => by
        by_cases d : t' < t
        · exact absurd ⟨q', t', h1, h2, d⟩ c
        · omega
      refine ⟨q, hq, ?_⟩
      cases w with
      | base h =>
        obtain ⟨u, e, l⟩ := hs _ _ h
        have := mn q u hq (hf q u e)
        have : u = t := by omega
        subst this
        exact Fin.turn T ⟨u, e, hf q u e, fun u' h' => mn q u' hq h'⟩
      | @step p _ t0 w h2 =>
        have w1 := hw p q h2
        have hp : p ∈ L := by
          by_cases d : p ∈ L
          · exact d
          · have := mn p t0 d w
            omega
        obtain ⟨v, e, l⟩ := hL p hp
        have := l.2 t0 w
        obtain ⟨u, e2, l2⟩ := T.rel p v e q h2
        have z := mn q u hq (T.wy q u e2)
        have : u = t0 + wt p q := by omega
        subst this
        exact ⟨_, e2, T.wy q _ e2, fun u' h' => mn q u' hq h'⟩
/-- behind k turns -/
def Upto (nb : IP → List IP) (wt : IP → IP → Int) (S f : Tb) (k : Nat) : Prop := Right nb wt S f ∨ ∃ L : List IP, L.Nodup ∧ L.length = k ∧ ∀ p ∈ L, Fin nb wt S f p
theorem Upto.turn {S f g : Tb} {k : Nat} (hS : ∀ p t, (p, t) ∈ S → 0 ≤ t) (hw : ∀ p q, q ∈ nb p → 1 ≤ wt p q) (hs : ∀ p t, (p, t) ∈ S → ∃ u, lk f p = some u ∧ u ≤ t) (hf : ∀ p t, lk f p = some t → Wy nb wt S p t) (T : Turn (nb := nb) (wt := wt) S f g) (h : Upto nb wt S f k) : Upto nb wt S g (k + 1) := by
  rcases h with h | ⟨L, l1, l2, l3⟩
  · exact .inl (Right.turn T h)
  · by_cases c : ∃ q t, q ∉ L ∧ Wy nb wt S q t
    · obtain ⟨q, t, h1, h2⟩ := c
      obtain ⟨q', h3, h4⟩ := fin_one hS hw hs hf T l3 _ q t h1 h2 rfl
      refine .inr ⟨q' :: L, List.nodup_cons.mpr ⟨h3, l1⟩, by rw [List.length_cons, l2], fun p hp => ?_⟩
      rcases List.mem_cons.mp hp with e | e
      · rw [e]; exact h4
      · exact Fin.turn T (l3 p e)
    · have all : ∀ q t, Wy nb wt S q t → q ∈ L := fun q t w => by
        by_cases d : q ∈ L
        · exact d
        · exact absurd ⟨q, t, d, w⟩ c
      refine .inl (Right.turn T fun p => ⟨fun t e => ?_, fun e t w => ?_⟩)
      · obtain ⟨u, e2, l⟩ := l3 p (all p t (hf p t e))
        rw [e] at e2
        cases e2
        exact l
      · obtain ⟨u, e2, l⟩ := l3 p (all p t w)
        rw [e] at e2
        cases e2
theorem Upto.all {S f : Tb} {U : List IP} (hSU : ∀ p t, (p, t) ∈ S → p ∈ U) (hN : ∀ p q, q ∈ nb p → q ∈ U) (hf : ∀ p t, lk f p = some t → Wy nb wt S p t) (h : Upto nb wt S f U.length) : Right nb wt S f := by
  rcases h with h | ⟨L, l1, l2, l3⟩
  · exact h
  · have sub : ∀ p ∈ L, p ∈ U := fun p hp => by
      obtain ⟨t, e, l⟩ := l3 p hp
      exact l.1.inU hSU hN
    have all : ∀ q t, Wy nb wt S q t → q ∈ L := fun q t w => by
      by_cases d : q ∈ L
      · exact d
      · have := nd_le (l := q :: L) (u := U) (List.nodup_cons.mpr ⟨d, l1⟩) fun p hp => by
          rcases List.mem_cons.mp hp with e | e
          · rw [e]; exact w.inU hSU hN
          · exact sub p e
        rw [List.length_cons, l2] at this
        omega
    refine fun p => ⟨fun t e => ?_, fun e t w => ?_⟩
    · obtain ⟨u, e2, l⟩ := l3 p (all p t (hf p t e))
      rw [e] at e2
      cases e2
      exact l
    · obtain ⟨u, e2, l⟩ := l3 p (all p t w)
      rw [e] at e2
      cases e2
/-! the least of what waits first -/
abbrev Qe := Int × IP
def qLt (a b : Qe) : Bool := decide (a.1 < b.1) || (decide (a.1 = b.1) && pLt a.2 b.2)
theorem qOrd : PuH.Ord qLt where
  asym := fun a b h => by
    unfold qLt at *
    simp only [Bool.or_eq_true, Bool.and_eq_true, decide_eq_true_eq, Bool.or_eq_false_iff, Bool.and_eq_false_iff, decide_eq_false_iff_not] at *
    rcases h with h | ⟨h1, h2⟩
    · exact ⟨by omega, .inl (by omega)⟩
    · refine ⟨by omega, .inr ?_⟩
      have := pLt_iff.mp h2
      exact pLt_no.mpr (by omega)
  tr := fun a b c h1 h2 => by
    unfold qLt at *
    simp only [Bool.or_eq_false_iff, Bool.and_eq_false_iff, decide_eq_false_iff_not] at *
    refine ⟨by omega, ?_⟩
    by_cases d : c.1 = a.1
    · refine .inr ?_
      have e1 : pLt b.2 a.2 = false := by
        rcases h1.2 with z | z
        · omega
        · exact z
      have e2 : pLt c.2 b.2 = false := by
        rcases h2.2 with z | z
        · omega
        · exact z
      exact pLt_tr e1 e2
    · exact .inl d
theorem qLt_le {a b : Qe} (h : qLt a b = false) : b.1 ≤ a.1 := by
  unfold qLt at h
  simp only [Bool.or_eq_false_iff, decide_eq_false_iff_not] at h
  omega
structure DInv (nb : IP → List IP) (wt : IP → IP → Int) (one : IP) (U : List IP) (f : Tb) (Q : List Qe) : Prop where
  hp : PuH.IsHeap qLt Q
  tk : Tk U f
  fin : ∀ p t, lk f p = some t → Lst nb wt [(one, 0)] p t
  way : ∀ x ∈ Q, Wy nb wt [(one, 0)] x.2 x.1
  fr : ∀ p t, lk f p = some t → ∀ q ∈ nb p, (∃ u, lk f q = some u) ∨ ∃ u, (u, q) ∈ Q ∧ u ≤ t + wt p q
  st : (∃ u, lk f one = some u) ∨ (0, one) ∈ Q
theorem DInv.init {one : IP} {U : List IP} : DInv nb wt one U [] [(0, one)] where
  hp := fun i x p h0 e => by
    have := (List.getElem?_eq_some_iff.mp e).1
    simp at this
    omega
  tk := ⟨by simp, by simp⟩
  fin := fun p t e => by cases e
  way := fun x hx => by rw [List.mem_singleton.mp hx]; exact .base (by simp)
  fr := fun p t e => by cases e
  st := .inr (by simp)
theorem DInv.wait {one : IP} {U : List IP} {f : Tb} {Q : List Qe} (I : DInv nb wt one U f Q) (hw : ∀ p q, q ∈ nb p → 1 ≤ wt p q) {q : IP} {t : Int} (w : Wy nb wt [(one, 0)] q t) : lk f q = none → ∃ x ∈ Q, x.1 ≤ t := by
  induction w with
  | @base p t h =>
    intro e
    have h' := List.mem_singleton.mp h
    cases h'
    rcases I.st with ⟨u, e2⟩ | z
    · rw [e] at e2; cases e2
    · exact ⟨_, z, Int.le_refl _⟩
  | @step p q t w h2 ih =>
    intro e
    have := hw p q h2
    cases c : lk f p with
    | none =>
      obtain ⟨x, hx, l⟩ := ih c
      exact ⟨x, hx, by omega⟩
    | some v =>
      have l := (I.fin p v c).2 t w
      rcases I.fr p v c q h2 with ⟨u, e2⟩ | ⟨u, z, l2⟩
      · rw [e] at e2; cases e2
      · exact ⟨_, z, by show u ≤ _; omega⟩
theorem DInv.right {one : IP} {U : List IP} {f : Tb} (I : DInv nb wt one U f []) (hw : ∀ p q, q ∈ nb p → 1 ≤ wt p q) : Right nb wt [(one, 0)] f := by
  refine fun p => ⟨fun t e => I.fin p t e, fun e t w => ?_⟩
  obtain ⟨x, hx, _⟩ := I.wait hw w e
  cases hx
/-- one that is told already -/
theorem DInv.skip {one : IP} {U : List IP} {f : Tb} {Q R : List Qe} {x : Qe} (I : DInv nb wt one U f Q) (hp : PuH.hPop qLt Q = some (x, R)) (hx : x.2 ∈ f.map (·.1)) : DInv nb wt one U f R := by
  have pm := PuH.hPop_perm hp
  obtain ⟨h1, h2⟩ := PuH.pop_heap qOrd I.hp hp
  have ex : ∃ u, lk f x.2 = some u := by
    cases c : lk f x.2 with
    | none => exact absurd hx ((lk_none_iff _ _).mp c)
    | some u => exact ⟨u, rfl⟩
  refine ⟨h1, I.tk, I.fin, fun y hy => I.way y (pm.mem_iff.mpr (List.mem_cons_of_mem _ hy)), fun p t e q hq => ?_, ?_⟩
  · rcases I.fr p t e q hq with z | ⟨u, z, l⟩
    · exact .inl z
    · rcases List.mem_cons.mp (pm.mem_iff.mp z) with y | y
      · subst y; exact .inl ex
      · exact .inr ⟨u, y, l⟩
  · rcases I.st with z | z
    · exact .inl z
    · rcases List.mem_cons.mp (pm.mem_iff.mp z) with y | y
      · subst y; exact .inl ex
      · exact .inr y
/-- pushes -/
def pushs (wt : IP → IP → Int) (t : Int) (p : IP) : List IP → List Qe → List Qe
  | [], Q => Q
  | q :: qs, Q => pushs wt t p qs (PuH.hPush qLt Q (t + wt p q, q))
theorem pushs_heap (t : Int) (p : IP) : ∀ (qs : List IP) (Q : List Qe), PuH.IsHeap qLt Q → PuH.IsHeap qLt (pushs wt t p qs Q)
  | [], Q, h => h
  | q :: qs, Q, h => pushs_heap t p qs _ (PuH.push_heap qOrd _ h)
theorem pushs_mem (t : Int) (p : IP) : ∀ (qs : List IP) (Q : List Qe) (x : Qe), x ∈ pushs wt t p qs Q ↔ x ∈ Q ∨ ∃ q ∈ qs, x = (t + wt p q, q)
  | [], Q, x => by simp [pushs]
  | q :: qs, Q, x => by
    unfold pushs
    rw [pushs_mem t p qs, (PuH.hPush_perm Q _).mem_iff, List.mem_append, List.mem_singleton]
    constructor
    · rintro ((h | h) | ⟨r, h1, h2⟩)
      · exact .inl h
      · exact .inr ⟨q, List.mem_cons_self, h⟩
      · exact .inr ⟨r, List.mem_cons_of_mem _ h1, h2⟩
    · rintro (h | ⟨r, h1, h2⟩)
      · exact .inl (.inl h)
      · rcases List.mem_cons.mp h1 with e | e
        · subst e; exact .inl (.inr h2)
        · exact .inr ⟨r, e, h2⟩
theorem pushs_len (t : Int) (p : IP) : ∀ (qs : List IP) (Q : List Qe), (pushs wt t p qs Q).length = Q.length + qs.length
  | [], Q => rfl
  | q :: qs, Q => by
    unfold pushs
    rw [pushs_len t p qs, (PuH.hPush_perm Q _).length_eq, List.length_append, List.length_singleton, List.length_cons]
    omega
theorem DInv.settle {one : IP} {U : List IP} {f : Tb} {Q R : List Qe} {x : Qe} (I : DInv nb wt one U f Q) (hw : ∀ p q, q ∈ nb p → 1 ≤ wt p q) (hU : one ∈ U) (hN : ∀ p q, q ∈ nb p → q ∈ U) (hp : PuH.hPop qLt Q = some (x, R)) (hx : x.2 ∉ f.map (·.1)) :
    DInv nb wt one U (ptb f x.2 x.1) (pushs wt x.1 x.2 (nb x.2) R) := by
  have pm := PuH.hPop_perm hp
  obtain ⟨h1, h2⟩ := PuH.pop_heap qOrd I.hp hp
  have en := (lk_none_iff _ _).mpr hx
  have wx := I.way x (pm.mem_iff.mpr List.mem_cons_self)
  have lx : Lst nb wt [(one, 0)] x.2 x.1 := ⟨wx, fun u w => by
    obtain ⟨y, hy, l⟩ := I.wait hw w en
    have := qLt_le (h2 y hy)
    omega⟩
  have lkn : ∀ q, lk (ptb f x.2 x.1) q = if q = x.2 then some x.1 else lk f q := fun q => lk_pt _ _ _ _
  have some' : ∀ q, (∃ u, lk f q = some u) → ∃ u, lk (ptb f x.2 x.1) q = some u := fun q ⟨u, e⟩ => by
    rw [lkn]
    split
    · exact ⟨_, rfl⟩
    · exact ⟨u, e⟩
  have selfS : ∃ u, lk (ptb f x.2 x.1) x.2 = some u := ⟨x.1, by rw [lkn, if_pos rfl]⟩
  refine ⟨pushs_heap _ _ _ _ h1, I.tk.pt (wx.inU (U := U) (fun p t h => by have h' := List.mem_singleton.mp h; cases h'; exact hU) hN) _, fun p t e => ?_, fun y hy => ?_, fun p t e q hq => ?_, ?_⟩
  · rw [lkn] at e
    by_cases c : p = x.2
    · subst c
      rw [if_pos rfl] at e
      cases e
      exact lx
    · rw [if_neg c] at e
      exact I.fin p t e
  · rcases (pushs_mem _ _ _ _ y).mp hy with z | ⟨q, z1, rfl⟩
    · exact I.way y (pm.mem_iff.mpr (List.mem_cons_of_mem _ z))
    · exact .step wx z1
  · rw [lkn] at e
    by_cases c : p = x.2
    · subst c
      rw [if_pos rfl] at e
      cases e
      exact .inr ⟨x.1 + wt x.2 q, (pushs_mem _ _ _ _ _).mpr (.inr ⟨q, hq, rfl⟩), Int.le_refl _⟩
    · rw [if_neg c] at e
      rcases I.fr p t e q hq with z | ⟨u, z, l⟩
      · exact .inl (some' q z)
      · rcases List.mem_cons.mp (pm.mem_iff.mp z) with y | y
        · subst y; exact .inl selfS
        · exact .inr ⟨u, (pushs_mem _ _ _ _ _).mpr (.inl y), l⟩
  · rcases I.st with z | z
    · exact .inl (some' _ z)
    · rcases List.mem_cons.mp (pm.mem_iff.mp z) with y | y
      · subst y; exact .inl selfS
      · exact .inr ((pushs_mem _ _ _ _ _).mpr (.inl y))
end
end Pu
namespace Pu
open PySem PySem.Spec L2
open PyProof.Rows hiding St
def qD (x : Qe) : D := .tup [.int x.1, pairD x.2]
theorem hk_q (x : Qe) : hk (qD x) = some [x.1, x.2.1, x.2.2] := rfl
theorem ltK_q (a b : Qe) : ltK (qD a) (qD b) = qLt a b := by
  unfold ltK
  rw [hk_q, hk_q]
  show decide ([a.1, a.2.1, a.2.2] < [b.1, b.2.1, b.2.2]) = _
  rw [lt_cons, lt_cons, lt_cons, nil_lt []]
  unfold qLt
  by_cases h : a.1 = b.1
  · rw [if_pos h]
    have e1 : decide (a.1 < b.1) = false := decide_eq_false (by omega)
    rw [e1, decide_eq_true h, Bool.false_or, Bool.true_and]
    cases c : pLt a.2 b.2 with
    | true =>
      have := pLt_iff.mp c
      split
      · split
        · omega
        · exact decide_eq_true (by omega)
      · exact decide_eq_true (by omega)
    | false =>
      have := pLt_no.mp c
      split
      · split
        · rfl
        · exact decide_eq_false (by omega)
      · exact decide_eq_false (by omega)
  · rw [if_neg h, decide_eq_false h, Bool.false_and, Bool.or_false]
theorem okH_q (Q : List Qe) : okH (Q.map qD) = true := by
  unfold okH
  have : okN 3 (Q.map qD) = true := by
    unfold okN
    rw [List.all_eq_true]
    intro d hd
    obtain ⟨x, _, rfl⟩ := List.mem_map.mp hd
    rw [hk_q]
    rfl
  rw [this, Bool.true_or]
theorem hPushD_q (Q : List Qe) (x : Qe) (h : Q.length < big) : hPushD (Q.map qD) (qD x) = some ((PuH.hPush qLt Q x).map qD) := by
  unfold hPushD
  have e : Q.map qD ++ [qD x] = (Q ++ [x]).map qD := by rw [List.map_append]; rfl
  rw [e, if_pos ⟨okH_q _, by rw [List.length_map]; exact h⟩, PuH.hPush_map (lt := qLt) qD Q x fun a _ b _ => ltK_q a b]
theorem hPopD_q (Q : List Qe) : hPopD (Q.map qD) = (PuH.hPop qLt Q).map fun p => (qD p.1, p.2.map qD) := by
  unfold hPopD
  rw [if_pos (okH_q _), PuH.hPop_map (lt := qLt) qD Q fun a _ b _ => ltK_q a b]
theorem inD_tb (f : Tb) (p : IP) : inD (pairD p) (tbD f) = some (lk f p).isSome := by
  have e1 : inS (pairD p) (tbD f) = none := rfl
  have e2 : inQ (pairD p) (tbD f) = none := rfl
  have e3 : inT (pairD p) (tbD f) = some (lk f p).isSome := by
    show (keyOf (pairD p)).map (fun k => (getT (f.map fun x => (kyP x.1, D.int x.2)) k).isSome) = _
    rw [keyOf_pair, Option.map_some, getT_tb]
    cases lk f p <;> rfl
  unfold inD
  rw [e1, e2, e3]
  rfl
theorem dIn_tb (f : Tb) (p : IP) : dIn (pairD p) (tbD f) = some (.bl (lk f p).isSome) := by unfold dIn; rw [inD_tb]; rfl
theorem dNotIn_tb (f : Tb) (p : IP) : dNotIn (pairD p) (tbD f) = some (.bl (!(lk f p).isSome)) := by unfold dNotIn; rw [inD_tb]; rfl
theorem setD_tb (f : Tb) (p : IP) (v : Int) (h : f.length < big) : setD (tbD f) (pairD p) (.int v) = some (tbD (ptb f p v)) := by
  show (if (f.map fun x => (kyP x.1, D.int x.2)).length < big then (keyOf (pairD p)).map (fun k => D.dct (putT (f.map fun x => (kyP x.1, D.int x.2)) k (.int v))) else none) = _
  rw [List.length_map, if_pos h, keyOf_pair, Option.map_some, putT_tb]
  rfl
def optD : Option Int → D
  | none => .non
  | some i => .int i
theorem getD1_tb (f : Tb) (p : IP) : getD1 (tbD f) (pairD p) .non = some (optD (lk f p)) := by
  show (keyOf (pairD p)).map (fun k => (getT (f.map fun x => (kyP x.1, D.int x.2)) k).getD .non) = _
  rw [keyOf_pair, Option.map_some, getT_tb]
  cases lk f p <;> rfl
theorem ixD_tb (f : Tb) (p : IP) : ixD (tbD f) (pairD p) = (lk f p).map .int := by
  show (keyOf (pairD p)).bind (fun k => getT (f.map fun x => (kyP x.1, D.int x.2)) k) = _
  rw [keyOf_pair, Option.bind_some, getT_tb]
theorem sortKeys_tb (f : Tb) : (listA (tbD f)).bind sortD = some (.lst ((sortL (f.map (·.1))).map pairD)) := by
  have e : listA (tbD f) = some (.lst ((f.map (·.1)).map pairD)) := by
    show some (D.lst ((f.map fun x => (kyP x.1, D.int x.2)).map fun p => keyD p.1)) = _
    rw [List.map_map, List.map_map]
    rfl
  rw [e, Option.bind_some]
  show (pairsD ((f.map (·.1)).map pairD)).map (fun ps => D.lst ((sortL ps).map pairD)) = _
  rw [pairsD_map]
  rfl
theorem listA_tb (f : Tb) : listA (tbD f) = some (.lst ((f.map (·.1)).map pairD)) := by
  show some (D.lst ((f.map fun x => (kyP x.1, D.int x.2)).map fun p => keyD p.1)) = _
  rw [List.map_map, List.map_map]
  rfl
theorem sortD_pairs (ps : List IP) : sortD (.lst (ps.map pairD)) = some (.lst ((sortL ps).map pairD)) := by
  show (pairsD (ps.map pairD)).map (fun ps => D.lst ((sortL ps).map pairD)) = _
  rw [pairsD_map]
  rfl
theorem dictD_one (p : IP) (v : Int) : dictD (tbD [(p, v)]) = some (tbD [(p, v)]) := rfl
theorem dictA_one (p : IP) (v : Int) : dictA (tbD [(p, v)]) = some (tbD [(p, v)]) := rfl
theorem eDct_one (p : IP) (v : Int) : (keyOf (pairD p)).map (fun k => D.dct [(k, .int v)]) = some (tbD [(p, v)]) := rfl
end Pu
/-! least arrivals as a function; least starts, tight sources; comprehensions and loops of a fixed form -/
namespace Pu
open PySem PySem.Spec L2
open PyProof.Rows hiding St
section
variable {nb : IP → List IP} {wt : IP → IP → Int}
theorem wy_shift {S : Tb} {s : IP} {st : Int} (hs : (s, st) ∈ S) {p : IP} {t : Int} (h : Wy nb wt [(s, 0)] p t) : Wy nb wt S p (st + t) := by
  induction h with
  | @base p t h =>
    have h' := List.mem_singleton.mp h
    cases h'
    rw [Int.add_zero]
    exact .base hs
  | @step p q t _ h2 ih =>
    rw [← Int.add_assoc]
    exact .step ih h2
theorem wy_un {S : Tb} {p : IP} {u : Int} (h : Wy nb wt S p u) : ∃ s st, (s, st) ∈ S ∧ Wy nb wt [(s, 0)] p (u - st) := by
  induction h with
  | @base p t h => exact ⟨p, t, h, by rw [Int.sub_self]; exact .base (by simp)⟩
  | @step p q t _ h2 ih =>
    obtain ⟨s, st, h1, h3⟩ := ih
    refine ⟨s, st, h1, ?_⟩
    have e : t + wt p q - st = (t - st) + wt p q := by omega
    rw [e]
    exact .step h3 h2
theorem wy_cat {S : Tb} {p : IP} {a : Int} (h : Wy nb wt S p a) {x : IP} {t : Int} (h2 : Wy nb wt [(p, 0)] x t) : Wy nb wt S x (a + t) := by
  induction h2 with
  | @base x t hb =>
    have h' := List.mem_singleton.mp hb
    cases h'
    rw [Int.add_zero]
    exact h
  | @step x q t _ hq ih =>
    rw [← Int.add_assoc]
    exact .step ih hq
theorem mem_lk {S : Tb} {p : IP} {t : Int} (h : lk S p = some t) : (p, t) ∈ S := by
  induction S with
  | nil => cases h
  | cons x S ih =>
    rw [lk_cons] at h
    by_cases c : x.1 = p
    · rw [if_pos c] at h
      cases h
      subst c
      exact List.mem_cons_self
    · rw [if_neg c] at h
      exact List.mem_cons_of_mem _ (ih h)
theorem lk_mem {S : Tb} (h : (S.map (·.1)).Nodup) {p : IP} {t : Int} (hm : (p, t) ∈ S) : lk S p = some t := by
  induction S with
  | nil => cases hm
  | cons x S ih =>
    rw [List.map_cons] at h
    obtain ⟨h1, h2⟩ := List.nodup_cons.mp h
    rw [lk_cons]
    rcases List.mem_cons.mp hm with e | e
    · subst e; rw [if_pos rfl]
    · have : ¬ x.1 = p := fun z => h1 (z ▸ List.mem_map.mpr ⟨_, e, rfl⟩)
      rw [if_neg this]
      exact ih h2 e
end
section
variable (nb : IP → List IP) (wt : IP → IP → Int)
open Classical in
/-- the least arrival -/
noncomputable def arv (S : Tb) (p : IP) : Option Int := if h : ∃ t, Lst nb wt S p t then some h.choose else none
noncomputable def dst (s p : IP) : Option Int := arv nb wt [(s, 0)] p
end
section
variable {nb : IP → List IP} {wt : IP → IP → Int}
theorem Right.arv {S f : Tb} (h : Right nb wt S f) (p : IP) : lk f p = arv nb wt S p := by
  unfold Pu.arv
  split
  · rename_i hx
    have c := hx.choose_spec
    cases e : lk f p with
    | none => exact absurd c.1 ((h p).2 e _)
    | some t =>
      have l := (h p).1 t e
      have a := c.2 t l.1
      have b := l.2 _ c.1
      exact congrArg some (Int.le_antisymm b a)
  · rename_i hx
    cases e : lk f p with
    | none => rfl
    | some t => exact absurd ⟨t, (h p).1 t e⟩ hx
theorem arv_lst {S : Tb} {p : IP} {t : Int} (h : arv nb wt S p = some t) : Lst nb wt S p t := by
  unfold Pu.arv at h
  split at h
  · rename_i hx
    cases h
    exact hx.choose_spec
  · cases h
theorem lst_arv {S : Tb} {p : IP} {t : Int} (h : Lst nb wt S p t) : arv nb wt S p = some t := by
  unfold Pu.arv
  have hx : ∃ t, Lst nb wt S p t := ⟨t, h⟩
  rw [dif_pos hx]
  have c := hx.choose_spec
  exact congrArg some (Int.le_antisymm (c.2 t h.1) (h.2 _ c.1))
/-- there is a table -/
def Tab (nb : IP → List IP) (wt : IP → IP → Int) (S : Tb) : Prop := ∃ f, Right nb wt S f
theorem arv_none {S : Tb} (T : Tab nb wt S) {p : IP} (h : arv nb wt S p = none) (t : Int) : ¬ Wy nb wt S p t := by
  obtain ⟨f, R⟩ := T
  exact (R p).2 (by rw [R.arv, h]) t
theorem wy_arv {S : Tb} (T : Tab nb wt S) {p : IP} {t : Int} (h : Wy nb wt S p t) : ∃ u, arv nb wt S p = some u ∧ u ≤ t := by
  cases e : arv nb wt S p with
  | none => exact absurd h (arv_none T e t)
  | some u => exact ⟨u, rfl, (arv_lst e).2 t h⟩
/-- an event's arrival by the travel times -/
theorem arv_iff {S : Tb} (hT : ∀ s st, (s, st) ∈ S → Tab nb wt [(s, 0)]) {p : IP} {u : Int} : arv nb wt S p = some u ↔ (∃ s st d, (s, st) ∈ S ∧ dst nb wt s p = some d ∧ u = st + d) ∧ ∀ s st d, (s, st) ∈ S → dst nb wt s p = some d → u ≤ st + d := by
  constructor
  · intro h
    have l := arv_lst h
    obtain ⟨s, st, h1, h2⟩ := wy_un l.1
    refine ⟨?_, fun s st d h1 h2 => l.2 _ (wy_shift h1 (arv_lst h2).1)⟩
    obtain ⟨d, e1, e2⟩ := wy_arv (hT s st h1) h2
    have e3 := l.2 _ (wy_shift h1 (arv_lst e1).1)
    exact ⟨s, st, d, h1, e1, by omega⟩
  · rintro ⟨⟨s, st, d, h1, h2, rfl⟩, h3⟩
    refine lst_arv ⟨wy_shift h1 (arv_lst h2).1, fun v hv => ?_⟩
    obtain ⟨s', st', h1', h2'⟩ := wy_un hv
    obtain ⟨d', e1, e2⟩ := wy_arv (hT s' st' h1') h2'
    have := h3 s' st' d' h1' e1
    omega
theorem arv_no {S : Tb} (hT : ∀ s st, (s, st) ∈ S → Tab nb wt [(s, 0)]) {p : IP} : arv nb wt S p = none ↔ ∀ s st, (s, st) ∈ S → dst nb wt s p = none := by
  constructor
  · intro h s st hs
    cases e : dst nb wt s p with
    | none => rfl
    | some d =>
      exfalso
      have key : ∀ (S' : Tb), (∀ x ∈ S', x ∈ S) → (∃ x ∈ S', (dst nb wt x.1 p).isSome = true) → ∃ s st d, (s, st) ∈ S' ∧ dst nb wt s p = some d ∧ ∀ s' st' d', (s', st') ∈ S' → dst nb wt s' p = some d' → st + d ≤ st' + d' := by
        intro S'
        induction S' with
        | nil => rintro _ ⟨x, hx, _⟩; cases hx
        | cons y S' ih =>
          intro hsub hex
          by_cases c : ∃ x ∈ S', (dst nb wt x.1 p).isSome = true
          · obtain ⟨s1, st1, d1, a1, a2, a3⟩ := ih (fun x hx => hsub x (List.mem_cons_of_mem _ hx)) c
            cases ey : dst nb wt y.1 p with
            | none =>
              refine ⟨s1, st1, d1, List.mem_cons_of_mem _ a1, a2, fun s' st' d' h' e' => ?_⟩
              rcases List.mem_cons.mp h' with z | z
              · subst z; rw [e'] at ey; cases ey
              · exact a3 s' st' d' z e'
            | some dy =>
              by_cases l : st1 + d1 ≤ y.2 + dy
              · refine ⟨s1, st1, d1, List.mem_cons_of_mem _ a1, a2, fun s' st' d' h' e' => ?_⟩
                rcases List.mem_cons.mp h' with z | z
                · subst z; rw [e'] at ey; cases ey; exact l
                · exact a3 s' st' d' z e'
              · refine ⟨y.1, y.2, dy, List.mem_cons_self, ey, fun s' st' d' h' e' => ?_⟩
                rcases List.mem_cons.mp h' with z | z
                · subst z; rw [e'] at ey; cases ey; exact Int.le_refl _
                · have := a3 s' st' d' z e'; omega
          · obtain ⟨x, hx, hs⟩ := hex
            rcases List.mem_cons.mp hx with z | z
            · subst z
              obtain ⟨dy, ey⟩ := Option.isSome_iff_exists.mp hs
              refine ⟨x.1, x.2, dy, List.mem_cons_self, ey, fun s' st' d' h' e' => ?_⟩
              rcases List.mem_cons.mp h' with z | z
              · subst z; rw [e'] at ey; cases ey; exact Int.le_refl _
              · exact absurd ⟨_, z, by rw [e']; rfl⟩ c
            · exact absurd ⟨x, z, hs⟩ c
      obtain ⟨s1, st1, d1, a1, a2, a3⟩ := key S (fun _ h => h) ⟨_, hs, by rw [e]; rfl⟩
      have := (arv_iff hT).mpr ⟨⟨s1, st1, d1, a1, a2, rfl⟩, a3⟩
      rw [h] at this
      cases this
  · intro h
    cases e : arv nb wt S p with
    | none => rfl
    | some u =>
      obtain ⟨⟨s, st, d, h1, h2, _⟩, _⟩ := (arv_iff hT).mp e
      rw [h s st h1] at h2
      cases h2
theorem arv_one {s : IP} (T : Tab nb wt [(s, 0)]) (st : Int) (p : IP) : arv nb wt [(s, st)] p = (dst nb wt s p).map (st + ·) := by
  have hT : ∀ s' st', (s', st') ∈ [(s, st)] → Tab nb wt [(s', 0)] := fun s' st' h => by
    have h' := List.mem_singleton.mp h
    cases h'
    exact T
  cases e : dst nb wt s p with
  | none =>
    exact (arv_no hT).mpr fun s' st' h => by
      have h' := List.mem_singleton.mp h
      cases h'
      exact e
  | some d =>
    refine (arv_iff hT).mpr ⟨⟨s, st, d, by simp, e, rfl⟩, fun s' st' d' h e' => ?_⟩
    have h' := List.mem_singleton.mp h
    cases h'
    rw [e] at e'
    cases e'
    exact Int.le_refl _
end
/-! ## readings -/
abbrev Rd1 := List (IP × Option Int)
def readD (x : IP × Option Int) : D := .tup [pairD x.1, optD x.2]
def rdD (rd : Rd1) : D := if rd.isEmpty = true then .tp0 else .tup (rd.map readD)
@[simp] theorem items_tup (ds : List D) : itemsD (.tup ds) = some ds := rfl
@[simp] theorem items_lst (ds : List D) : itemsD (.lst ds) = some ds := rfl
@[simp] theorem items_rd (rd : Rd1) : itemsD (rdD rd) = some (rd.map readD) := by cases rd <;> rfl
@[simp] theorem tupleZ_rd (rd : Rd1) : tupleZ (.lst (rd.map readD)) = some (rdD rd) := by cases rd <;> rfl
@[simp] theorem evD_rd (rd : Rd1) : evD (rdD rd) = false := by
  match rd with
  | [] => rfl
  | [a] => exact evD_t1 _
  | [a, b] => rfl
  | _ :: _ :: _ :: _ => exact evD_t3 _ _ _ _
@[simp] theorem evD_pr (rd : Rd1) (d : D) : evD (.tup [rdD rd, d]) = false := by
  match rd with
  | [] => rfl
  | [a] => rfl
  | [a, b] => rfl
  | _ :: _ :: _ :: _ => rfl
theorem rdd (x : IP × Option Int) : readD x = .tup [pairD x.1, optD x.2] := rfl
def startD (x : IP × Int) : D := .tup [pairD x.1, .int x.2]
def evtD (ev : Tb) : D := .tup (ev.map startD)
theorem sd (x : IP × Int) : startD x = .tup [pairD x.1, .int x.2] := rfl
/-- a dict of readings -/
def tboL (rd : Rd1) : List (List Key × D) := rd.map fun x => (kyP x.1, optD x.2)
def tboD (rd : Rd1) : D := .dct (tboL rd)
def lko (rd : Rd1) (p : IP) : Option (Option Int) := (rd.find? fun x => decide (x.1 = p)).map (·.2)
theorem getT_tbo (rd : Rd1) (p : IP) : getT (tboL rd) (kyP p) = (lko rd p).map optD := by
  unfold getT lko tboL
  rw [List.find?_map]
  have e : (fun y : List Key × D => decide (y.1 = kyP p)) ∘ (fun x : IP × Option Int => (kyP x.1, optD x.2)) = fun x => decide (x.1 = p) := by
    funext x
    exact decide_eq_decide.mpr (kyP_iff x.1 p)
  rw [e]
  cases rd.find? fun x => decide (x.1 = p) <;> rfl
theorem ky_nd {rd : Rd1} (h : (rd.map (·.1)).Nodup) : (rd.map fun x => kyP x.1).Nodup := by
  have e : (rd.map fun x => kyP x.1) = (rd.map (·.1)).map kyP := by rw [List.map_map]; rfl
  rw [e]
  exact List.Pairwise.map _ (fun a b hab z => hab ((kyP_iff a b).mp z)) h
theorem ents_rd : ∀ rd : Rd1, entsD (rd.map readD) = some (tboL rd)
  | [] => rfl
  | x :: rd => by
    rw [List.map_cons]
    show (keyOf (pairD x.1)).bind (fun kk => (entsD (rd.map readD)).map fun es => (kk, optD x.2) :: es) = _
    rw [keyOf_pair, ents_rd rd]
    rfl
theorem dict_rd {rd : Rd1} (h : (rd.map (·.1)).Nodup) : dictA (rdD rd) = some (tboD rd) := by
  cases rd with
  | nil => rfl
  | cons a r =>
    have e1 : dictD (rdD (a :: r)) = none := rfl
    have hev : evish ((a :: r).map readD) = true := by
      unfold evish
      have : ((a :: r).map readD).all evD = true := List.all_eq_true.mpr fun d hd => by
        obtain ⟨x, _, rfl⟩ := List.mem_map.mp hd
        rfl
      rw [this]
      rfl
    have e2 : dictT (rdD (a :: r)) = some (tboD (a :: r)) := by
      show (if evish ((a :: r).map readD) = true then (entsD ((a :: r).map readD)).bind _ else none) = _
      rw [if_pos hev, ents_rd, Option.bind_some, if_pos]
      · rfl
      · unfold tboL
        rw [List.map_map]
        exact ky_nd h
    unfold dictA
    rw [e1, e2]
    rfl
theorem dIn_tbo (rd : Rd1) (p : IP) : dIn (pairD p) (tboD rd) = some (.bl (lko rd p).isSome) := by
  unfold dIn
  have : inD (pairD p) (tboD rd) = some (lko rd p).isSome := by
    show (keyOf (pairD p)).map (fun k => (getT (tboL rd) k).isSome) = _
    rw [keyOf_pair, Option.map_some, getT_tbo]
    cases lko rd p <;> rfl
  rw [this]; rfl
theorem dNotIn_tbo (rd : Rd1) (p : IP) : dNotIn (pairD p) (tboD rd) = some (.bl (!(lko rd p).isSome)) := by
  unfold dNotIn
  have : inD (pairD p) (tboD rd) = some (lko rd p).isSome := by
    show (keyOf (pairD p)).map (fun k => (getT (tboL rd) k).isSome) = _
    rw [keyOf_pair, Option.map_some, getT_tbo]
    cases lko rd p <;> rfl
  rw [this]; rfl
theorem ixD_tbo (rd : Rd1) (p : IP) : ixD (tboD rd) (pairD p) = (lko rd p).map optD := by
  show (keyOf (pairD p)).bind (fun k => getT (tboL rd) k) = _
  rw [keyOf_pair, Option.bind_some, getT_tbo]
theorem getD1_tbo (rd : Rd1) (p : IP) : getD1 (tboD rd) (pairD p) .non = some (optD (lko rd p).join) := by
  show (keyOf (pairD p)).map (fun k => (getT (tboL rd) k).getD .non) = _
  rw [keyOf_pair, Option.map_some, getT_tbo]
  cases lko rd p with
  | none => rfl
  | some o => cases o <;> rfl
theorem keys_tbo (rd : Rd1) : keysK (tboL rd) = (rd.map (·.1)).map pairD := by
  unfold keysK tboL
  rw [List.map_map, List.map_map]
  rfl
theorem lko_mem {rd : Rd1} (h : (rd.map (·.1)).Nodup) {x : IP × Option Int} (hx : x ∈ rd) : lko rd x.1 = some x.2 := by
  induction rd with
  | nil => cases hx
  | cons a r ih =>
    rw [List.map_cons] at h
    obtain ⟨n1, n2⟩ := List.nodup_cons.mp h
    unfold lko at *
    rw [List.find?_cons]
    rcases List.mem_cons.mp hx with e | e
    · subst e; simp
    · have : decide (a.1 = x.1) = false := decide_eq_false fun z => n1 (z ▸ List.mem_map.mpr ⟨x, e, rfl⟩)
      simp only [this]
      exact ih n2 e
theorem mem_lko {rd : Rd1} {p : IP} {o : Option Int} (h : lko rd p = some o) : (p, o) ∈ rd := by
  unfold lko at h
  obtain ⟨x, h1, rfl⟩ := Option.map_eq_some_iff.mp h
  have := List.find?_some h1
  rw [← of_decide_eq_true this]
  exact List.mem_of_find?_eq_some h1
def la (clock : Int) (t : Option Int) : Int := t.getD (clock + 1)
def lsB (clock : Int) (rd : Rd1) (d : IP → Option Int) : List Int := rd.filterMap fun x => (d x.1).map fun v => la clock x.2 - v
def lsv (clock : Int) (rd : Rd1) (d : IP → Option Int) : Int := mxL 0 (lsB clock rd d)
theorem lsv_nn (clock : Int) (rd : Rd1) (d : IP → Option Int) : 0 ≤ lsv clock rd d := (mxL_spec (lsB clock rd d) 0).2 0 List.mem_cons_self
theorem lsv_ge {clock : Int} {rd : Rd1} {d : IP → Option Int} {x : IP × Option Int} (hx : x ∈ rd) {v : Int} (e : d x.1 = some v) : la clock x.2 ≤ lsv clock rd d + v := by
  have := (mxL_spec (lsB clock rd d) 0).2 (la clock x.2 - v) (List.mem_cons_of_mem _ (List.mem_filterMap.mpr ⟨x, hx, by rw [e]; rfl⟩))
  unfold lsv
  omega
theorem lsv_is (clock : Int) (rd : Rd1) (d : IP → Option Int) : lsv clock rd d = 0 ∨ ∃ x ∈ rd, ∃ v, d x.1 = some v ∧ la clock x.2 = lsv clock rd d + v := by
  rcases List.mem_cons.mp (mxL_spec (lsB clock rd d) 0).1 with h | h
  · exact .inl h
  · obtain ⟨x, hx, e⟩ := List.mem_filterMap.mp h
    obtain ⟨v, e1, e2⟩ := Option.map_eq_some_iff.mp e
    refine .inr ⟨x, hx, v, e1, ?_⟩
    unfold lsv
    omega
section
variable (nb : IP → List IP) (wt : IP → IP → Int) (clock : Int) (rd : Rd1)
noncomputable def lsO (s : IP) : Int := lsv clock rd (dst nb wt s)
noncomputable def tgt (srcs : List IP) (p : IP) (t : Int) : List IP := srcs.filter fun s => decide ((dst nb wt s p).map (lsO nb wt clock rd s + ·) = some t)
noncomputable def tghts (srcs : List IP) : List (IP × List IP) := rd.filterMap fun x => x.2.map fun t => (x.1, tgt nb wt clock rd srcs x.1 t)
noncomputable def earl (srcs : List IP) : Tb := srcs.map fun s => (s, lsO nb wt clock rd s)
end
def tgD (x : IP × List IP) : D := .tup [pairD x.1, .tup (x.2.map pairD)]
def tgsD (xs : List (IP × List IP)) : D := .tup (xs.map tgD)
theorem tgd (x : IP × List IP) : tgD x = .tup [pairD x.1, .tup (x.2.map pairD)] := rfl
/-! ## dicts of dicts -/
def wvL (ws : List (IP × Tb)) : List (List Key × D) := ws.map fun x => (kyP x.1, tbD x.2)
def wvD (ws : List (IP × Tb)) : D := .dct (wvL ws)
def lkw (ws : List (IP × Tb)) (p : IP) : Option Tb := (ws.find? fun x => decide (x.1 = p)).map (·.2)
theorem getT_wv (ws : List (IP × Tb)) (p : IP) : getT (wvL ws) (kyP p) = (lkw ws p).map tbD := by
  unfold getT lkw wvL
  rw [List.find?_map]
  have e : (fun y : List Key × D => decide (y.1 = kyP p)) ∘ (fun x : IP × Tb => (kyP x.1, tbD x.2)) = fun x => decide (x.1 = p) := by
    funext x
    exact decide_eq_decide.mpr (kyP_iff x.1 p)
  rw [e]
  cases ws.find? fun x => decide (x.1 = p) <;> rfl
theorem lkw_map {F : IP → Tb} {srcs : List IP} {s : IP} (h : s ∈ srcs) : lkw (srcs.map fun s => (s, F s)) s = some (F s) := by
  induction srcs with
  | nil => cases h
  | cons a r ih =>
    unfold lkw at *
    rw [List.map_cons, List.find?_cons]
    by_cases c : a = s
    · subst c
      simp
    · have : decide (a = s) = false := decide_eq_false c
      simp only [this]
      exact ih (List.mem_of_ne_of_mem (Ne.symm c) h)
theorem getT_map {F : IP → Tb} {srcs : List IP} {s : IP} (h : s ∈ srcs) : getT (wvL (srcs.map fun s => (s, F s))) (kyP s) = some (tbD (F s)) := by rw [getT_wv, lkw_map h]; rfl
theorem ixD_wv {F : IP → Tb} {srcs : List IP} {s : IP} (h : s ∈ srcs) : ixD (wvD (srcs.map fun s => (s, F s))) (pairD s) = some (tbD (F s)) := by
  show (keyOf (pairD s)).bind (fun k => getT (wvL (srcs.map fun s => (s, F s))) k) = _
  rw [keyOf_pair, Option.bind_some, getT_map h]
theorem putT_new {kvs : List (List Key × D)} {k : List Key} (h : k ∉ kvs.map (·.1)) (d : D) : putT kvs k d = kvs ++ [(k, d)] := by
  unfold putT
  rw [if_neg]
  intro c
  obtain ⟨x, hx, e⟩ := List.any_eq_true.mp c
  exact h (List.mem_map.mpr ⟨x, hx, of_decide_eq_true e⟩)
theorem setD_new {kvs : List (List Key × D)} {p : IP} (h : kyP p ∉ kvs.map (·.1)) (hl : kvs.length < big) (d : D) : setD (.dct kvs) (pairD p) d = some (.dct (kvs ++ [(kyP p, d)])) := by
  show (keyOf (pairD p)).bind (fun k => if kvs.length < big then some (D.dct (putT kvs k d)) else none) = _
  rw [keyOf_pair, Option.bind_some, if_pos hl, putT_new h]
theorem keys_wv (ws : List (IP × Tb)) : keysK (wvL ws) = ws.map fun x => pairD x.1 := by
  unfold keysK wvL
  rw [List.map_map]
  rfl
theorem keys_tb (f : Tb) : keysK (f.map fun x => (kyP x.1, D.int x.2)) = (f.map (·.1)).map pairD := by
  unfold keysK
  rw [List.map_map, List.map_map]
  rfl
/-! ## comprehensions whose environment comes back -/
section
variable {α : Type} {tg : MG} {tst : M Bool} {elt : M D} {vs : List Nat} {ι out : α → D} {β : α → Bool} {E : En}
theorem lcL_of : ∀ (as : List α) (acc : List D), (∀ a ∈ as, ∃ e1 e2, tg (ι a) E = some e1 ∧ tst e1 = .ok (β a) e2 ∧ (β a = true → ∃ e3, elt e2 = .ok (out a) e3 ∧ wipeE e3 vs = E) ∧ (β a = false → wipeE e2 vs = E)) → acc.length + as.length ≤ 900000 →
    lcL tg tst elt vs (as.map ι) acc E = .ok (.lst (acc ++ (as.filter β).map out)) E
  | [], acc, _, _ => by simp [lcL]
  | a :: as, acc, h, hl => by
    obtain ⟨e1, e2, h1, h2, h3, h4⟩ := h a List.mem_cons_self
    have hb : acc.length < big := by rw [List.length_cons] at hl; unfold big; omega
    rw [List.map_cons]
    unfold lcL
    rw [h1]
    simp only [h2, Out.nox, bind_ok]
    cases c : β a with
    | false =>
      rw [if_neg Bool.false_ne_true, h4 c, List.filter_cons_of_neg (by rw [c]; exact Bool.false_ne_true)]
      exact lcL_of as acc (fun x hx => h x (List.mem_cons_of_mem _ hx)) (by rw [List.length_cons] at hl; omega)
    | true =>
      obtain ⟨e3, h5, h6⟩ := h3 c
      rw [if_pos rfl, List.filter_cons_of_pos c, List.map_cons]
      simp only [h5, bind_ok, if_pos hb, h6]
      rw [lcL_of as (acc ++ [out a]) (fun x hx => h x (List.mem_cons_of_mem _ hx)) (by rw [List.length_append, List.length_singleton]; rw [List.length_cons] at hl; omega), List.append_assoc]
      rfl
theorem dcL_of {fk fv : M D} {ky : α → List Key} : ∀ (as : List α) (acc : List (List Key × D)), (∀ a ∈ as, ∃ e1 e2, tg (ι a) E = some e1 ∧ tst e1 = .ok (β a) e2 ∧ (β a = true → ∃ e3 e4 k, fk e2 = .ok k e3 ∧ fv e3 = .ok (out a) e4 ∧ keyOf k = some (ky a) ∧ wipeE e4 vs = E) ∧ (β a = false → wipeE e2 vs = E)) → acc.length + as.length ≤ 900000 →
    cpG tg tst (bdK fk fv) vs (as.map ι) acc E = .ok ((as.filter β).foldl (fun m a => putT m (ky a) (out a)) acc) E
  | [], acc, _, _ => by simp [cpG]
  | a :: as, acc, h, hl => by
    obtain ⟨e1, e2, h1, h2, h3, h4⟩ := h a List.mem_cons_self
    have hb : acc.length < big := by rw [List.length_cons] at hl; unfold big; omega
    rw [List.map_cons]
    unfold cpG
    rw [h1]
    simp only [h2, Out.nox, bind_ok]
    cases c : β a with
    | false =>
      rw [if_neg Bool.false_ne_true, h4 c, List.filter_cons_of_neg (by rw [c]; exact Bool.false_ne_true)]
      exact dcL_of as acc (fun x hx => h x (List.mem_cons_of_mem _ hx)) (by rw [List.length_cons] at hl; omega)
    | true =>
      obtain ⟨e3, e4, k, h5, h6, h7, h8⟩ := h3 c
      have hp : (putT acc (ky a) (out a)).length ≤ acc.length + 1 := by
        unfold putT
        split
        · rw [List.length_map]; omega
        · rw [List.length_append, List.length_singleton]; exact Nat.le_refl _
      rw [if_pos rfl, List.filter_cons_of_pos c, List.foldl_cons]
      simp only [bdK, h5, h6, h7, Out.nox, bind_ok, if_pos hb, h8]
      exact dcL_of as (putT acc (ky a) (out a)) (fun x hx => h x (List.mem_cons_of_mem _ hx)) (by rw [List.length_cons] at hl; omega)
end
theorem fold_put {α : Type} {ky : α → List Key} {out : α → D} : ∀ (as : List α) (acc : List (List Key × D)), (as.map ky).Nodup → (∀ a ∈ as, ky a ∉ acc.map (·.1)) → as.foldl (fun m a => putT m (ky a) (out a)) acc = acc ++ as.map fun a => (ky a, out a)
  | [], acc, _, _ => by simp
  | a :: as, acc, h, hd => by
    rw [List.map_cons] at h
    obtain ⟨n1, n2⟩ := List.nodup_cons.mp h
    rw [List.foldl_cons, putT_new (hd a List.mem_cons_self), fold_put as _ n2 (fun x hx => ?_), List.append_assoc]
    · rfl
    · rw [List.map_append]
      intro c
      rcases List.mem_append.mp c with z | z
      · exact hd x (List.mem_cons_of_mem _ hx) z
      · rw [List.map_cons, List.map_nil] at z
        have z' : ky x = ky a := List.mem_singleton.mp z
        exact n1 (List.mem_map.mpr ⟨x, hx, z'⟩)
/-- a for whose turns append: the list stands at slot i -/
theorem forL_app {α : Type} {tg : MG} {body : M Fl} {ι : α → D} {out : α → List D} {En0 : List D → En → Prop} : ∀ (as : List α) (acc : List D) (e : En), En0 acc e → (∀ a ∈ as, ∀ acc e, En0 acc e → acc.length ≤ 900000 → ∃ e1 e2, tg (ι a) e = some e1 ∧ body e1 = .ok .nx e2 ∧ En0 (acc ++ out a) e2) → (∀ a ∈ as, (out a).length ≤ 1) → acc.length + as.length ≤ 900000 →
    ∃ e', forL tg body (as.map ι) e = .ok .nx e' ∧ En0 (acc ++ as.flatMap out) e'
  | [], acc, e, h, _, _, _ => ⟨e, rfl, by simpa using h⟩
  | a :: as, acc, e, h, hs, h1, hl => by
    rw [List.length_cons] at hl
    have l1 := h1 a List.mem_cons_self
    obtain ⟨e1, e2, a1, a2, a3⟩ := hs a List.mem_cons_self acc e h (by omega)
    obtain ⟨e', i1, i2⟩ := forL_app as (acc ++ out a) e2 a3 (fun x hx => hs x (List.mem_cons_of_mem _ hx)) (fun x hx => h1 x (List.mem_cons_of_mem _ hx)) (by rw [List.length_append]; omega)
    refine ⟨e', ?_, by rw [List.flatMap_cons, ← List.append_assoc]; exact i2⟩
    rw [List.map_cons]
    unfold forL
    rw [a1]
    simp only [a2, bind_ok]
    exact i1
/-! ## data that are compared as they are -/
def plD : Nat → D → Bool
  | 0, _ => false
  | _ + 1, .int _ => true
  | _ + 1, .bl _ => true
  | _ + 1, .str _ => true
  | _ + 1, .non => true
  | n + 1, .tup ds => decide (ds.length ≤ 900) && ds.all (plD n)
  | _ + 1, _ => false
theorem plD_opt (n : Nat) (o : Option Int) : plD (n + 1) (optD o) = true := by cases o <;> rfl
theorem plD_pair (n : Nat) (p : IP) : plD (n + 2) (pairD p) = true := rfl
theorem plD_tup (n : Nat) (ds : List D) : plD (n + 1) (.tup ds) = (decide (ds.length ≤ 900) && ds.all (plD n)) := rfl
theorem plD_tupL {n : Nat} {ds : List D} (hl : ds.length ≤ 900) (h : ∀ d ∈ ds, plD n d = true) : plD (n + 1) (.tup ds) = true := by
  rw [plD_tup, Bool.and_eq_true]
  exact ⟨decide_eq_true hl, List.all_eq_true.mpr h⟩
theorem plD_pairs (n : Nat) {ps : List IP} (hl : ps.length ≤ 900) : plD (n + 3) (.tup (ps.map pairD)) = true := plD_tupL (by rw [List.length_map]; exact hl) fun d hd => by
  obtain ⟨p, _, rfl⟩ := List.mem_map.mp hd
  exact plD_pair n p
theorem plD_evt (n : Nat) {ev : Tb} (hl : ev.length ≤ 900) : plD (n + 4) (evtD ev) = true := plD_tupL (by rw [List.length_map]; exact hl) fun d hd => by
  obtain ⟨p, _, rfl⟩ := List.mem_map.mp hd
  exact plD_tupL (by simp) fun d hd => by
    simp only [List.mem_cons, List.not_mem_nil, or_false] at hd
    rcases hd with rfl | rfl
    · exact plD_pair _ _
    · rfl
theorem plD_tgs (n : Nat) {xs : List (IP × List IP)} (hl : xs.length ≤ 900) (h : ∀ x ∈ xs, x.2.length ≤ 900) : plD (n + 5) (tgsD xs) = true := plD_tupL (by rw [List.length_map]; exact hl) fun d hd => by
  obtain ⟨x, hx, rfl⟩ := List.mem_map.mp hd
  exact plD_tupL (by simp) fun d hd => by
    simp only [List.mem_cons, List.not_mem_nil, or_false] at hd
    rcases hd with rfl | rfl
    · exact plD_pair _ _
    · exact plD_pairs n (h x hx)
end Pu
namespace Pu
open PySem PySem.Spec L2
open PyProof.Rows hiding St
theorem ixD_wvD (ws : List (IP × Tb)) (s : IP) : ixD (wvD ws) (pairD s) = (lkw ws s).map tbD := by
  show (keyOf (pairD s)).bind (fun k => getT (wvL ws) k) = _
  rw [keyOf_pair, Option.bind_some, getT_wv]
theorem lkw_mem {ws : List (IP × Tb)} {s : IP} {f : Tb} (h : lkw ws s = some f) : (s, f) ∈ ws := by
  unfold lkw at h
  obtain ⟨x, h1, rfl⟩ := Option.map_eq_some_iff.mp h
  have := List.find?_some h1
  rw [← of_decide_eq_true this]
  exact List.mem_of_find?_eq_some h1
theorem lkw_ex {ws : List (IP × Tb)} {s : IP} (h : s ∈ ws.map (·.1)) : ∃ f, lkw ws s = some f ∧ (s, f) ∈ ws := by
  cases e : lkw ws s with
  | some f => exact ⟨f, rfl, lkw_mem e⟩
  | none =>
    exfalso
    unfold lkw at e
    rw [Option.map_eq_none_iff, List.find?_eq_none] at e
    obtain ⟨x, hx, ex⟩ := List.mem_map.mp h
    exact e x hx (decide_eq_true ex)
theorem intsOf_map : ∀ is : List Int, intsOf (is.map D.int) = some is
  | [] => rfl
  | i :: is => by
    rw [List.map_cons]
    show (intsOf (is.map D.int)).map (fun l => i :: l) = _
    rw [intsOf_map is]
    rfl
theorem maxD_ints (f : Int → List Int → Int) (i : Int) (is : List Int) : maxD f (.lst (.int i :: is.map D.int)) = some (.int (f i is)) := by
  show (intsOf ((i :: is).map D.int)).bind _ = _
  rw [intsOf_map]
  rfl
theorem filterMap_split {α β : Type} (f : α → Option β) (d : β) : ∀ l : List α, l.filterMap f = (l.filter fun a => (f a).isSome).map fun a => (f a).getD d
  | [] => rfl
  | a :: l => by
    cases h : f a with
    | none =>
      rw [List.filterMap_cons_none h, List.filter_cons_of_neg (by rw [h]; exact Bool.false_ne_true)]
      exact filterMap_split f d l
    | some b =>
      rw [List.filterMap_cons_some h, List.filter_cons_of_pos (by rw [h]; rfl), List.map_cons, h, filterMap_split f d l]
      rfl
theorem fm_congr {α β : Type} {f g : α → Option β} : ∀ {l : List α}, (∀ x ∈ l, f x = g x) → l.filterMap f = l.filterMap g
  | [], _ => rfl
  | a :: l, h => by
    rw [List.filterMap_cons, List.filterMap_cons, h a List.mem_cons_self, fm_congr fun x hx => h x (List.mem_cons_of_mem _ hx)]
theorem Tk.shift {U : List IP} {f : Tb} (h : Tk U f) (c : Int) : Tk U (f.map fun x => (x.1, c + x.2)) := by
  have e : (f.map fun x => (x.1, c + x.2)).map (·.1) = f.map (·.1) := by rw [List.map_map]; rfl
  exact ⟨by rw [e]; exact h.nd, by rw [e]; exact h.sub⟩
theorem lk_shift (f : Tb) (c : Int) (p : IP) : lk (f.map fun x => (x.1, c + x.2)) p = (lk f p).map (c + ·) := by
  unfold lk
  rw [List.find?_map]
  have e : (fun y : IP × Int => decide (y.1 = p)) ∘ (fun x : IP × Int => (x.1, c + x.2)) = fun x => decide (x.1 = p) := rfl
  rw [e]
  cases f.find? fun x => decide (x.1 = p) <;> rfl
theorem lsv_congr {clock : Int} {rd : Rd1} {d d' : IP → Option Int} (h : ∀ x ∈ rd, d x.1 = d' x.1) : lsv clock rd d = lsv clock rd d' := by
  unfold lsv lsB
  congr 1
  exact fm_congr fun x hx => by rw [h x hx]
theorem dst_self {nb : IP → List IP} {wt : IP → IP → Int} {s : IP} (hw : ∀ p q, q ∈ nb p → 1 ≤ wt p q) : dst nb wt s s = some 0 :=
  lst_arv ⟨.base (by simp), fun u h => Wy.nonneg (fun p t hp => by
    have h' := List.mem_singleton.mp hp
    cases h'
    exact Int.le_refl _) hw h⟩
end Pu
/-! reasons, refutations, the earliest event -/
namespace Pu
open PySem PySem.Spec L2
open PyProof.Rows hiding St
inductive Rsn where
  | far | start | rdg (p : IP)
deriving DecidableEq
def rsnD : Rsn → D
  | .far => .tup [.str "far"]
  | .start => .tup [.str "start"]
  | .rdg p => .tup [.str "reading", pairD p]
def rightB (d : IP → Option Int) (rd : Rd1) (clock : Int) (gauge : IP) (t : Int) (r : Rsn) : Bool := match d gauge with
  | none => decide (r = .far)
  | some v => match r with
    | .far => false
    | .start => decide (t - v < 0)
    | .rdg q => match lko rd q, d q with
      | some o, some u => decide (t - v + u < la clock o)
      | _, _ => false
def allR (rd : Rd1) : List Rsn := .far :: .start :: rd.map fun x => .rdg x.1
def firstR (d : IP → Option Int) (rd : Rd1) (clock : Int) (gauge : IP) (t : Int) : Option Rsn := (allR rd).find? (rightB d rd clock gauge t)
/-- a source that is not tight has a reason -/
theorem has_reason {clock : Int} {rd : Rd1} {d : IP → Option Int} (hn : (rd.map (·.1)).Nodup) {p : IP} {t : Int} (hp : (p, some t) ∈ rd) (hnt : (d p).map (lsv clock rd d + ·) ≠ some t) : ∃ r ∈ allR rd, rightB d rd clock p t r = true := by
  cases e : d p with
  | none => exact ⟨.far, by simp [allR], by simp [rightB, e]⟩
  | some v =>
    have h1 := lsv_ge (clock := clock) hp e
    have h1 : t ≤ lsv clock rd d + v := h1
    have h2 : lsv clock rd d + v ≠ t := fun z => hnt (by rw [e]; exact congrArg some z)
    by_cases c : t - v < 0
    · exact ⟨.start, by simp [allR], by simp [rightB, e, c]⟩
    · rcases lsv_is clock rd d with z | ⟨x, hx, u, e2, z⟩
      · omega
      · refine ⟨.rdg x.1, List.mem_cons_of_mem _ (List.mem_cons_of_mem _ (List.mem_map.mpr ⟨x, hx, rfl⟩)), ?_⟩
        have e3 := lko_mem hn hx
        simp only [rightB, e, e3, e2]
        exact decide_eq_true (by omega)
theorem firstR_some {clock : Int} {rd : Rd1} {d : IP → Option Int} (hn : (rd.map (·.1)).Nodup) {p : IP} {t : Int} (hp : (p, some t) ∈ rd) (hnt : (d p).map (lsv clock rd d + ·) ≠ some t) : ∃ r, firstR d rd clock p t = some r ∧ r ∈ allR rd ∧ rightB d rd clock p t r = true := by
  obtain ⟨r, h1, h2⟩ := has_reason hn hp hnt
  cases e : firstR d rd clock p t with
  | none =>
    exfalso
    exact (List.find?_eq_none.mp e) r h1 h2
  | some r' => exact ⟨r', rfl, List.mem_of_find?_eq_some e, List.find?_some e⟩
/-- an arrival as a reading tells it -/
def asRd (clock : Int) (a t : Option Int) : Bool := match t with
  | none => (match a with | none => true | some a => decide (clock < a))
  | some t => decide (a = some t)
section
variable {nb : IP → List IP} {wt : IP → IP → Int} {clock : Int} {rd : Rd1} {srcs : List IP}
def Agr (nb : IP → List IP) (wt : IP → IP → Int) (clock : Int) (rd : Rd1) (S : Tb) : Prop := ∀ x ∈ rd, asRd clock (arv nb wt S x.1) x.2 = true
/-- each reading with a time has a tight source -/
def Expl (nb : IP → List IP) (wt : IP → IP → Int) (clock : Int) (rd : Rd1) (srcs : List IP) : Prop := ∀ p t, (p, some t) ∈ rd → tgt nb wt clock rd srcs p t ≠ []
theorem mem_tgt {p s : IP} {t : Int} : s ∈ tgt nb wt clock rd srcs p t ↔ s ∈ srcs ∧ (dst nb wt s p).map (lsO nb wt clock rd s + ·) = some t := by
  unfold tgt
  rw [List.mem_filter]
  exact ⟨fun h => ⟨h.1, of_decide_eq_true h.2⟩, fun h => ⟨h.1, decide_eq_true h.2⟩⟩
theorem mem_earl {s : IP} {st : Int} : (s, st) ∈ earl nb wt clock rd srcs ↔ s ∈ srcs ∧ st = lsO nb wt clock rd s := by
  unfold earl
  rw [List.mem_map]
  constructor
  · rintro ⟨s', h, e⟩
    cases e
    exact ⟨h, rfl⟩
  · rintro ⟨h, rfl⟩
    exact ⟨s, h, rfl⟩
/-- by the earliest event no gauge sees a wave too early -/
theorem early_ge (hT : ∀ s ∈ srcs, Tab nb wt [(s, 0)]) {x : IP × Option Int} (hx : x ∈ rd) {a : Int} (h : arv nb wt (earl nb wt clock rd srcs) x.1 = some a) : la clock x.2 ≤ a := by
  obtain ⟨⟨s, st, d, h1, h2, rfl⟩, _⟩ := (arv_iff fun s st h => hT s (mem_earl.mp h).1).mp h
  obtain ⟨_, rfl⟩ := mem_earl.mp h1
  exact lsv_ge hx h2
theorem early_agr (hT : ∀ s ∈ srcs, Tab nb wt [(s, 0)]) (hE : Expl nb wt clock rd srcs) : Agr nb wt clock rd (earl nb wt clock rd srcs) := by
  intro x hx
  obtain ⟨p, t⟩ := x
  have tabs : ∀ s st, (s, st) ∈ earl nb wt clock rd srcs → Tab nb wt [(s, 0)] := fun s st h => hT s (mem_earl.mp h).1
  cases t with
  | none =>
    cases e : arv nb wt (earl nb wt clock rd srcs) p with
    | none => simp [asRd, e]
    | some a =>
      have := early_ge hT hx e
      have : clock + 1 ≤ a := this
      simp only [asRd, e]
      exact decide_eq_true (by omega)
  | some t =>
    obtain ⟨s, hs⟩ := List.exists_mem_of_ne_nil _ (hE p t hx)
    obtain ⟨h1, h2⟩ := mem_tgt.mp hs
    obtain ⟨d, e1, e2⟩ := Option.map_eq_some_iff.mp h2
    have e3 : arv nb wt (earl nb wt clock rd srcs) p = some t := (arv_iff tabs).mpr ⟨⟨s, _, d, mem_earl.mpr ⟨h1, rfl⟩, e1, e2.symm⟩, fun s' st' d' h' e' => by
      obtain ⟨_, rfl⟩ := mem_earl.mp h'
      have := lsv_ge (clock := clock) hx e'
      exact this⟩
    simp only [asRd]
    exact decide_eq_true e3
theorem arv_le {S : Tb} (hT : ∀ s st, (s, st) ∈ S → Tab nb wt [(s, 0)]) {s p : IP} {st d : Int} (hs : (s, st) ∈ S) (e : dst nb wt s p = some d) : ∃ a, arv nb wt S p = some a ∧ a ≤ st + d := by
  cases c : arv nb wt S p with
  | none =>
    have := (arv_no hT).mp c s st hs
    rw [e] at this
    cases this
  | some a => exact ⟨a, rfl, ((arv_iff hT).mp c).2 s st d hs e⟩
/-- no source starts earlier in an event that agrees -/
theorem agr_ge {S : Tb} (hT : ∀ s st, (s, st) ∈ S → Tab nb wt [(s, 0)]) (h0 : ∀ s st, (s, st) ∈ S → 0 ≤ st) (hA : Agr nb wt clock rd S) {s : IP} {st : Int} (hs : (s, st) ∈ S) : lsO nb wt clock rd s ≤ st := by
  rcases lsv_is clock rd (dst nb wt s) with z | ⟨x, hx, v, e, z⟩
  · have := h0 s st hs
    unfold lsO
    omega
  · obtain ⟨a, ha, la'⟩ := arv_le hT hs e
    have h := hA x hx
    rw [ha] at h
    have key : la clock x.2 ≤ a := by
      cases ht : x.2 with
      | none =>
        rw [ht] at h
        have : clock < a := of_decide_eq_true h
        show clock + 1 ≤ a
        omega
      | some t =>
        rw [ht] at h
        have : some a = some t := of_decide_eq_true h
        cases this
        exact Int.le_refl _
    unfold lsO
    omega
/-- .. so readings that an event agrees with are explained -/
theorem agr_expl {S : Tb} (hT : ∀ s st, (s, st) ∈ S → Tab nb wt [(s, 0)]) (h0 : ∀ s st, (s, st) ∈ S → 0 ≤ st) (hS : ∀ s st, (s, st) ∈ S → s ∈ srcs) (hA : Agr nb wt clock rd S) : Expl nb wt clock rd srcs := by
  intro p t hx hne
  have h := hA (p, some t) hx
  have h : arv nb wt S p = some t := of_decide_eq_true h
  obtain ⟨⟨s, st, d, h1, h2, rfl⟩, _⟩ := (arv_iff hT).mp h
  have l1 := agr_ge hT h0 hA h1
  have l2 : st + d ≤ lsO nb wt clock rd s + d := lsv_ge (clock := clock) hx h2
  have e : lsO nb wt clock rd s = st := by omega
  have : s ∈ tgt nb wt clock rd srcs p (st + d) := mem_tgt.mpr ⟨hS s st h1, by rw [h2]; exact congrArg some (by rw [e])⟩
  rw [hne] at this
  cases this
/-- the earliest arrivals are the earliest ones of all events that agree -/
theorem early_le {S : Tb} (hT : ∀ s ∈ srcs, Tab nb wt [(s, 0)]) (h0 : ∀ s st, (s, st) ∈ S → 0 ≤ st) (hS : ∀ s st, (s, st) ∈ S → s ∈ srcs) (hA : Agr nb wt clock rd S) {p : IP} {a : Int} (h : arv nb wt S p = some a) : ∃ e, arv nb wt (earl nb wt clock rd srcs) p = some e ∧ e ≤ a := by
  have hT' : ∀ s st, (s, st) ∈ S → Tab nb wt [(s, 0)] := fun s st h => hT s (hS s st h)
  obtain ⟨⟨s, st, d, h1, h2, rfl⟩, _⟩ := (arv_iff hT').mp h
  obtain ⟨e, e1, e2⟩ := arv_le (nb := nb) (wt := wt) (S := earl nb wt clock rd srcs) (fun s st h => hT s (mem_earl.mp h).1) (mem_earl.mpr ⟨hS s st h1, rfl⟩) h2
  have := agr_ge hT' h0 hA h1
  exact ⟨e, e1, by omega⟩
end
end Pu
namespace Pu
open PySem PySem.Spec L2
open PyProof.Rows hiding St
theorem dEq_pair (p q : IP) : dEq (pairD p) (pairD q) = some (.bl (decide (p = q))) := by
  have e : eqD (pairD p) (pairD q) = some (PyData.eqv (pyP p) (pyP q)) := rfl
  unfold dEq
  rw [e, eqv_pair]
  rfl
theorem eqD_tt {xs ys : List D} {p q : PyData} (e1 : toPy (.tup xs) = some p) (e2 : toPy (.tup ys) = some q) (s1 : SeqAt.shaped p = true) (s2 : SeqAt.shaped q = true) : eqD (.tup xs) (.tup ys) = some (PyData.eqv p q) := by
  have z : eqD (.tup xs) (.tup ys) = (toPy (.tup xs)).bind fun p => (toPy (.tup ys)).bind fun q => if SeqAt.shaped p = true ∧ SeqAt.shaped q = true then some (PyData.eqv p q) else none := rfl
  rw [z, e1, e2]
  simp [s1, s2]
def rsnP : Rsn → PyData
  | .far => .tuple [.str (("far" : String) : Str)]
  | .start => .tuple [.str (("start" : String) : Str)]
  | .rdg p => .tuple [.str (("reading" : String) : Str), pyP p]
theorem toPy_rsn (r : Rsn) : toPy (rsnD r) = some (rsnP r) := by cases r <;> rfl
theorem shaped_rsn (r : Rsn) : SeqAt.shaped (rsnP r) = true := by
  cases r with
  | far => decide +kernel
  | start => decide +kernel
  | rdg p =>
    have h : PyData.strOk (Str.ofString "reading") = true := by decide +kernel
    simp [rsnP, SeqAt.shaped, PyData.canLay0, PyData.canLayAll0, PyData.depth, PyData.depthAll, pyP, h]
theorem eqv_rsn (r t : Rsn) : PyData.eqv (rsnP r) (rsnP t) = decide (r = t) := by
  cases r <;> cases t
  case far.far => decide +kernel
  case far.start => decide +kernel
  case start.far => decide +kernel
  case start.start => decide +kernel
  case far.rdg p => simp [rsnP, PyData.eqv, PyData.eqvAll]
  case start.rdg p => simp [rsnP, PyData.eqv, PyData.eqvAll]
  case rdg.far p => simp [rsnP, PyData.eqv, PyData.eqvAll]
  case rdg.start p => simp [rsnP, PyData.eqv, PyData.eqvAll]
  case rdg.rdg p q =>
    have e := eqv_pair p q
    simp [rsnP, PyData.eqv, PyData.eqvAll, e]
theorem eqD_rsn (r t : Rsn) : eqD (rsnD r) (rsnD t) = some (decide (r = t)) := by
  have h := fun xs ys (e1 : rsnD r = .tup xs) (e2 : rsnD t = .tup ys) => (by rw [e1, e2]; exact eqD_tt (by rw [← e1]; exact toPy_rsn r) (by rw [← e2]; exact toPy_rsn t) (shaped_rsn r) (shaped_rsn t) : eqD (rsnD r) (rsnD t) = some (PyData.eqv (rsnP r) (rsnP t)))
  rw [← eqv_rsn]
  cases r <;> cases t <;> exact h _ _ rfl rfl
theorem dEq_rsn (r t : Rsn) : dEq (rsnD r) (rsnD t) = some (.bl (decide (r = t))) := congrArg (Option.map D.bl) (eqD_rsn r t)
theorem rsn_far (r : Rsn) : dEq (rsnD r) (.tup [.str (("far" : String) : Str)]) = some (.bl (decide (r = .far))) := dEq_rsn r .far
theorem rsn_start (r : Rsn) : dEq (rsnD r) (.tup [.str (("start" : String) : Str)]) = some (.bl (decide (r = .start))) := dEq_rsn r .start
/-- a comprehension whose first turn lets an owned dict go -/
theorem lcL_of2 {α : Type} {tg : MG} {tst : M Bool} {elt : M D} {vs : List Nat} {ι out : α → D} {E0 E : En} : ∀ (as : List α) (acc : List D), as ≠ [] →
    (∀ a ∈ as, ∀ F, F = E0 ∨ F = E → ∃ e1 e2, tg (ι a) F = some e1 ∧ tst e1 = .ok true e2 ∧ ∃ e3, elt e2 = .ok (out a) e3 ∧ wipeE e3 vs = E) → acc.length + as.length ≤ 900000 →
    lcL tg tst elt vs (as.map ι) acc E0 = .ok (.lst (acc ++ as.map out)) E
  | [], acc, h, _, _ => absurd rfl h
  | a :: as, acc, _, h, hl => by
    obtain ⟨e1, e2, h1, h2, e3, h5, h6⟩ := h a List.mem_cons_self E0 (.inl rfl)
    have hb : acc.length < big := by rw [List.length_cons] at hl; unfold big; omega
    have ih := lcL_of (tg := tg) (tst := tst) (elt := elt) (vs := vs) (ι := ι) (out := out) (β := fun _ => true) (E := E) as (acc ++ [out a]) (fun x hx => by
      obtain ⟨e1, e2, h1, h2, e3, h5, h6⟩ := h x (List.mem_cons_of_mem _ hx) E (.inr rfl)
      exact ⟨e1, e2, h1, h2, fun _ => ⟨e3, h5, h6⟩, fun c => by cases c⟩) (by rw [List.length_append, List.length_singleton]; rw [List.length_cons] at hl; omega)
    rw [List.filter_eq_self.mpr (fun _ _ => rfl)] at ih
    rw [List.map_cons]
    unfold lcL
    rw [h1]
    simp only [h2, Out.nox, bind_ok]
    rw [if_pos trivial]
    simp only [h5, bind_ok, if_pos hb, h6]
    rw [ih, List.append_assoc]
    rfl
end Pu
namespace P_k27
open PySem PySem.Spec L2 Pu
open PyProof.Rows hiding St
def top (i : Nat) : Stmt := PySem.Challenge.pw_shorewarn_k27_refutations_checked.main.body.getD i (.Pass ⟨0, 0, 0, 0⟩)
abbrev s_has_signs_only : Stmt := top 13
abbrev s_are_rows : Stmt := top 12
abbrev s_is_ascending : Stmt := top 15
abbrev s_is_inside : Stmt := top 16
abbrev s_has_sign : Stmt := top 17
abbrev s_are_sources : Stmt := top 14
abbrev s_Chart_init : Stmt := inClass (top 11) 0
abbrev s_is_water : Stmt := top 18
abbrev s_beside : Stmt := top 19
abbrev s_water_beside : Stmt := top 22
abbrev s_crossing_minutes : Stmt := top 24
abbrev s_step_minutes : Stmt := top 23
abbrev s_reached_times : Stmt := top 21
abbrev s_least_arrival : Stmt := top 26
abbrev s_comes_too_soon : Stmt := top 28
abbrev s_is_right : Stmt := top 27
abbrev s_is_refutation : Stmt := top 29
abbrev s__law_is_integer : Stmt := top 31
abbrev s__law_same : Stmt := top 32
abbrev s__law_cell : Stmt := top 33
abbrev s__law_digits : Stmt := top 34
abbrev s__law_box : Stmt := top 35
abbrev s__law_draw : Stmt := top 36
abbrev s__law_near : Stmt := top 37
abbrev s__law_places : Stmt := top 38
abbrev s__law_minutes : Stmt := top 39
abbrev s__law_chart : Stmt := top 40
abbrev s__law_waves : Stmt := top 41
abbrev s__law_event : Stmt := top 42
abbrev s__law_gauges : Stmt := top 43
abbrev s__law_seen : Stmt := top 44
abbrev s__law_story : Stmt := top 45
abbrev s__law_bent : Stmt := top 46
abbrev s__law_too_early : Stmt := top 47
abbrev s__law_is_reason : Stmt := top 48
abbrev s__law_is_refuted : Stmt := top 49
abbrev s__law_a_reason : Stmt := top 50
abbrev s_law : Stmt := top 51
def kit : String → String → Option Bool
  | _, _ => none
def kitB : String → String → Option Bool
  | _, _ => none
def exm : String → String → Option Bool
  | _, _ => none
def xft : String → String → Bool
  | _, _ => false
/-- what the top has written -/
structure Txt (K : PySem.W.Frag) (mg : Str → Option Value) (T : Tx) : Prop where
  f_has_signs_only : ∃ fd, DefT K mg T "has_signs_only" "has_signs_only" "has_signs_only" s_has_signs_only ["row"] fd
  f_are_rows : ∃ fd, DefT K mg T "are_rows" "are_rows" "are_rows" s_are_rows ["rows"] fd
  f_is_ascending : ∃ fd, DefT K mg T "is_ascending" "is_ascending" "is_ascending" s_is_ascending ["places"] fd
  f_is_inside : ∃ fd, DefT K mg T "is_inside" "is_inside" "is_inside" s_is_inside ["rows", "place"] fd
  f_has_sign : ∃ fd, DefT K mg T "has_sign" "has_sign" "has_sign" s_has_sign ["rows", "place", "signs"] fd
  f_are_sources : ∃ fd, DefT K mg T "are_sources" "are_sources" "are_sources" s_are_sources ["rows", "sources"] fd
  f_Chart_init : ∃ fd, DefM K T "Chart.__init__" "__init__" "Chart.__init__" s_Chart_init ["self", "rows", "sources"] fd
  f_is_water : ∃ fd, DefT K mg T "is_water" "is_water" "is_water" s_is_water ["chart", "place"] fd
  f_beside : ∃ fd, DefT K mg T "beside" "beside" "beside" s_beside ["chart", "place"] fd
  f_water_beside : ∃ fd, DefT K mg T "water_beside" "water_beside" "water_beside" s_water_beside ["chart", "place"] fd
  f_crossing_minutes : ∃ fd, DefT K mg T "crossing_minutes" "crossing_minutes" "crossing_minutes" s_crossing_minutes ["chart", "place"] fd
  f_step_minutes : ∃ fd, DefT K mg T "step_minutes" "step_minutes" "step_minutes" s_step_minutes ["chart", "one", "two"] fd
  f_reached_times : ∃ fd, DefT K mg T "reached_times" "reached_times" "reached_times" s_reached_times ["chart", "cell"] fd
  f_least_arrival : ∃ fd, DefT K mg T "least_arrival" "least_arrival" "least_arrival" s_least_arrival ["time", "clock"] fd
  f_comes_too_soon : ∃ fd, DefT K mg T "comes_too_soon" "comes_too_soon" "comes_too_soon" s_comes_too_soon ["times", "seen", "clock", "start", "other"] fd
  f_is_right : ∃ fd, DefT K mg T "is_right" "is_right" "is_right" s_is_right ["times", "seen", "clock", "gauge", "reason"] fd
  f_is_refutation : ∃ fd, DefT K mg T "is_refutation" "is_refutation" "is_refutation" s_is_refutation ["chart", "readings", "clock", "gauge", "reasons"] fd
  f__law_is_integer : ∃ fd, DefT K mg T "_law_is_integer" "_law_is_integer" "_law_is_integer" s__law_is_integer ["actual"] fd
  f__law_same : ∃ fd, DefT K mg T "_law_same" "_law_same" "_law_same" s__law_same ["actual", "due"] fd
  f__law_cell : ∃ fd, DefT K mg T "_law_cell" "_law_cell" "_law_cell" s__law_cell ["script", "k"] fd
  f__law_digits : ∃ fd, DefT K mg T "_law_digits" "_law_digits" "_law_digits" s__law_digits ["cell", "at"] fd
  f__law_box : ∃ fd, DefT K mg T "_law_box" "_law_box" "_law_box" s__law_box ["script", "at"] fd
  f__law_draw : ∃ fd, DefT K mg T "_law_draw" "_law_draw" "_law_draw" s__law_draw ["box", "many"] fd
  f__law_near : ∃ fd, DefT K mg T "_law_near" "_law_near" "_law_near" s__law_near ["rows", "place"] fd
  f__law_places : ∃ fd, DefT K mg T "_law_places" "_law_places" "_law_places" s__law_places ["rows", "signs"] fd
  f__law_minutes : ∃ fd, DefT K mg T "_law_minutes" "_law_minutes" "_law_minutes" s__law_minutes ["rows", "place"] fd
  f__law_chart : ∃ fd, DefT K mg T "_law_chart" "_law_chart" "_law_chart" s__law_chart ["script", "first", "most"] fd
  f__law_waves : ∃ fd, DefT K mg T "_law_waves" "_law_waves" "_law_waves" s__law_waves ["rows", "starts"] fd
  f__law_event : ∃ fd, DefT K mg T "_law_event" "_law_event" "_law_event" s__law_event ["box", "sources", "most"] fd
  f__law_gauges : ∃ fd, DefT K mg T "_law_gauges" "_law_gauges" "_law_gauges" s__law_gauges ["box", "rows", "most"] fd
  f__law_seen : ∃ fd, DefT K mg T "_law_seen" "_law_seen" "_law_seen" s__law_seen ["rows", "event", "gauges", "clock"] fd
  f__law_story : ∃ fd, DefT K mg T "_law_story" "_law_story" "_law_story" s__law_story ["script", "most"] fd
  f__law_bent : ∃ fd, DefT K mg T "_law_bent" "_law_bent" "_law_bent" s__law_bent ["box", "readings", "clock"] fd
  f__law_too_early : ∃ fd, DefT K mg T "_law_too_early" "_law_too_early" "_law_too_early" s__law_too_early ["rows", "readings", "clock", "source", "gauge", "time", "other"] fd
  f__law_is_reason : ∃ fd, DefT K mg T "_law_is_reason" "_law_is_reason" "_law_is_reason" s__law_is_reason ["rows", "readings", "clock", "source", "gauge", "time", "reason"] fd
  f__law_is_refuted : ∃ fd, DefT K mg T "_law_is_refuted" "_law_is_refuted" "_law_is_refuted" s__law_is_refuted ["rows", "sources", "readings", "clock", "gauge", "reasons"] fd
  f__law_a_reason : ∃ fd, DefT K mg T "_law_a_reason" "_law_a_reason" "_law_a_reason" s__law_a_reason ["box", "rows", "readings", "clock", "source", "gauge", "time"] fd
  f_law : ∃ fd, DefT K mg T "law" "law" "law" s_law ["script"] fd
  n_all : mg "all" = none
  n_bool : mg "bool" = none
  n_dict : mg "dict" = none
  n_int : mg "int" = none
  n_isinstance : mg "isinstance" = none
  n_len : mg "len" = none
  n_list : mg "list" = none
  n_range : mg "range" = none
  n_set : mg "set" = none
  n_sorted : mg "sorted" = none
  n_str : mg "str" = none
  n_tuple : mg "tuple" = none
  n_zip : mg "zip" = none
  c_HIGH : ∃ tk, mg "HIGH" = some (.str "^" tk)
  c_LAND : ∃ tk, mg "LAND" = some (.str "abcdefghi" tk)
  c_MOST_SIDE : ∃ tk, mg "MOST_SIDE" = some (.int 7 tk)
  c_MOST_SOURCES : ∃ tk, mg "MOST_SOURCES" = some (.int 6 tk)
  c_ROCK : ∃ tk, mg "ROCK" = some (.str "#" tk)
  c_WATER : ∃ tk, mg "WATER" = some (.str "123456789" tk)
  h_heappop : mg "heappop" = some (.builtin "_heapq.heappop")
  h_heappush : mg "heappush" = some (.builtin "_heapq.heappush")
  e_ShoreError : mg "ShoreError" = some (.ref (T.cls "ShoreError"))
  e_BadChart : mg "BadChart" = some (.ref (T.cls "BadChart"))
  c_Chart : mg "Chart" = some (.ref (T.cls "Chart"))
  a_Chart : ClsT K T "Chart" ["rows", "sources"]
  k_Chart : Mk K (T.cls "Chart") (T.fn "Chart.__init__")
  x_BadChart : ExK K T "BadChart"
  xf_ok : ∀ c f, xft c f = true → XfC K (T.cls c) ∧ PySem.W.findIn K (.ref (T.cls c)) f = some none
  scr : ScK K T
  kit_ok : ∀ c d b, kit c d = some b → ExcC K (T.cls c) ∧ PySem.W.kitOne K (.ref (T.cls c)) (.ref (T.cls d)) = some b
  kit_okB : ∀ c d b, kitB c d = some b → ExcC K (T.cls c) ∧ PySem.W.kitOne K (.ref (T.cls c)) (.type d) = some b
  exm_ok : ∀ d c b, exm d c = some b → PySem.W.exmOne K (.ref (T.cls c)) (.ref (T.cls d)) = some b

section
variable {P : Program} {w : World} {K : PySem.W.Frag} {mg : Str → Option Value} {base : Heap} {T : Tx}
/-! has_signs_only: slots 0 row, 1 sign; own False -/
theorem sc_has_signs_only : FnScope ["row", "sign"] ["row"] (defScope s_has_signs_only) := ⟨rfl, rfl, rfl, by decide +kernel, rfl, by decide +kernel, by decide +kernel⟩
def q1_has_signs_only : M D := (eOp dIn (eVar 1) (eOp aAdd (eOp aAdd (eOp aAdd (eC (.str "123456789")) (eC (.str "abcdefghi"))) (eC (.str "^"))) (eC (.str "#"))))
def b_has_signs_only : M Fl := (sRet (eB1 allD (eLc (gNm 1) (iAny (eVar 0)) tYs q1_has_signs_only [1])))
def m_has_signs_only : Fn := ⟨[], runDef [] 2 b_has_signs_only⟩
theorem ok_has_signs_only (t : Txt K mg T) {fd : FuncData} (D : DefT K mg T "has_signs_only" "has_signs_only" "has_signs_only" s_has_signs_only ["row"] fd) : FnOk P w K mg base (L2.CX P w) 1 (T.fn "has_signs_only") fd ["row"] (spF T 1 m_has_signs_only) := by
  obtain ⟨_, K_HIGH⟩ := t.c_HIGH
  obtain ⟨_, K_LAND⟩ := t.c_LAND
  obtain ⟨_, K_ROCK⟩ := t.c_ROCK
  obtain ⟨_, K_WATER⟩ := t.c_WATER
  refine Fun.def2 (k := 0) (n := 2) (np := 1) T [] b_has_signs_only D.fn sc_has_signs_only rfl rfl (by decide) (by decide) fun cdv A outer s H E hr => ?_
  have tk := takes_of (X := cxOf (L2.CX P w) P w K mg base ["row", "sign"] "has_signs_only" (defScope s_has_signs_only) (T.fn "has_signs_only") cdv A outer s H E) rfl rfl rfl rfl
  exact (PXSs.one (PXS.ret (PX.b1 (call_allD rfl) (PXO.b (PXO.lc [("sign", 1)] rfl sc_has_signs_only.nd (PXI.any t.scr (PX.var 0)) (by kernel_rfl) (fun _ _ _ _ _ => (PXC.nm 1 (by decide) sc_has_signs_only.nd)) (fun _ _ _ _ _ => PXTs.nil) (fun _ _ _ _ _ => (PX.cmp (op_dIn hr.u65) (PX.var 1) (PX.b (PX.op op_aAdd (PX.op op_aAdd (PX.op op_aAdd (PX.gstr rfl K_WATER) (PX.b (PX.gstr rfl K_LAND))) (PX.b (PX.gstr rfl K_HIGH))) (PX.b (PX.gstr rfl K_ROCK)))) rfl)))) t.n_all bt_all)))
/-! are_rows: slots 0 rows, 1 width, 2 row; own False -/
theorem sc_are_rows : FnScope ["rows", "width", "row"] ["rows"] (defScope s_are_rows) := ⟨rfl, rfl, rfl, by decide +kernel, rfl, by decide +kernel, by decide +kernel⟩
def q1_are_rows : M D := (eAnd (eOp dEq (eB1 lenD (bVar 2)) (bVar 1)) (mCall 1 m_has_signs_only (aVal (eVar 2) aNil)))
def b_are_rows : M Fl := (sSeq (sIf (tNot' (tVal (eChain aLe aLe (eC (.int 1)) (eB1 lenD (bVar 0)) (eC (.int 7))))) (sRet (eC (.bl false))) sNil)
    (sSeq (sSet 1 (eB1 lenD (eIxV 0 (eC (.int 0)))))
    (sSeq (sIf (tNot' (tVal (eChain aLe aLe (eC (.int 1)) (eVar 1) (eC (.int 7))))) (sRet (eC (.bl false))) sNil)
    (sRet (eB1 allD (eLc (gNm 2) (iAny (eVar 0)) tYs q1_are_rows [2]))))))
def m_are_rows : Fn := ⟨[], runDef [] 3 b_are_rows⟩
theorem ok_are_rows (t : Txt K mg T) {fd : FuncData} (D : DefT K mg T "are_rows" "are_rows" "are_rows" s_are_rows ["rows"] fd) : FnOk P w K mg base (L2.CX P w) 2 (T.fn "are_rows") fd ["rows"] (spF T 1 m_are_rows) := by
  obtain ⟨fd_has_signs_only, D_has_signs_only⟩ := t.f_has_signs_only
  have G_has_signs_only := ok_has_signs_only (P := P) (w := w) (base := base) t D_has_signs_only
  obtain ⟨_, K_MOST_SIDE⟩ := t.c_MOST_SIDE
  refine Fun.def2 (k := 1) (n := 3) (np := 1) T [] b_are_rows D.fn sc_are_rows rfl rfl (by decide) (by decide) fun cdv A outer s H E hr => ?_
  have tk := takes_of (X := cxOf (L2.CX P w) P w K mg base ["rows", "width", "row"] "are_rows" (defScope s_are_rows) (T.fn "are_rows") cdv A outer s H E) rfl rfl rfl rfl
  exact (PXSs.cons (PXS.ifS (PXT.not (PXT.chain (op_aLe hr.u0) (op_aLe hr.u0) PX.int (PX.b1 (call_lenD' t.scr) (PXB.var 0) t.n_len bt_len) (PX.b (PX.gint rfl K_MOST_SIDE)))) (PXSs.one (PXS.ret PX.bl)) PXSs.nil)
    (PXSs.cons (PXS.set 1 (PX.b1 (call_lenD' t.scr) (PX.b (PX.ixV 0 t.scr hr.u1 PX.int)) t.n_len bt_len) sc_are_rows.nd)
    (PXSs.cons (PXS.ifS (PXT.not (PXT.chain (op_aLe hr.u0) (op_aLe hr.u0) PX.int (PX.var 1) (PX.b (PX.gint rfl K_MOST_SIDE)))) (PXSs.one (PXS.ret PX.bl)) PXSs.nil)
    (PXSs.one (PXS.ret (PX.b1 (call_allD rfl) (PXO.b (PXO.lc [("row", 2)] rfl sc_are_rows.nd (PXI.any t.scr (PX.var 0)) (by kernel_rfl) (fun _ _ _ _ _ => (PXC.nm 2 (by decide) sc_are_rows.nd)) (fun _ _ _ _ _ => PXTs.nil) (fun _ _ _ _ _ => (PX.and (PX.cmp (op_dEq hr.u64) (PX.b1 (call_lenD' t.scr) (PXB.var 2) t.n_len bt_len) (PXB.var 1) (nomark _)) (PX.one (PX.call G_has_signs_only (hr.mono (by omega)) D_has_signs_only.gl D_has_signs_only.kp D_has_signs_only.bi takes0 (PXA.val (PX.var 2) PXA.nil))))))) t.n_all bt_all))))))
/-! is_ascending: slots 0 places; own False -/
theorem sc_is_ascending : FnScope ["places"] ["places"] (defScope s_is_ascending) := ⟨rfl, rfl, rfl, by decide +kernel, rfl, by decide +kernel, by decide +kernel⟩
def b_is_ascending : M Fl := (sRet (eOp dEq (eB1 listA (bVar 0)) (eB1 sortSetD (bVar 0))))
def m_is_ascending : Fn := ⟨[], runDef [] 1 b_is_ascending⟩
theorem ok_is_ascending (t : Txt K mg T) {fd : FuncData} (D : DefT K mg T "is_ascending" "is_ascending" "is_ascending" s_is_ascending ["places"] fd) : FnOk P w K mg base (L2.CX P w) 1 (T.fn "is_ascending") fd ["places"] (spF T 1 m_is_ascending) := by
  refine Fun.def2 (k := 0) (n := 1) (np := 1) T [] b_is_ascending D.fn sc_is_ascending rfl rfl (by decide) (by decide) fun cdv A outer s H E hr => ?_
  have tk := takes_of (X := cxOf (L2.CX P w) P w K mg base ["places"] "is_ascending" (defScope s_is_ascending) (T.fn "is_ascending") cdv A outer s H E) rfl rfl rfl rfl
  exact (PXSs.one (PXS.ret (PX.cmp (op_dEq hr.u64) (PXO.fz (PXO.y1 (call_listA rfl) (PXB.var 0) t.n_list bt_list)) (PXO.b (PXO.sortSet rfl hr.u64 (PXB.var 0) t.n_sorted t.n_set)) (nomark _))))
/-! is_inside: slots 0 rows, 1 place, 2 row, 3 column; own False -/
theorem sc_is_inside : FnScope ["rows", "place", "row", "column"] ["rows", "place"] (defScope s_is_inside) := ⟨rfl, rfl, rfl, by decide +kernel, rfl, by decide +kernel, by decide +kernel⟩
def b_is_inside : M Fl := (sSeq (sUnp (gTu (gNs (gNm 2) (gNs (gNm 3) gN0))) (eVar 1))
    (sRet (eAnd (eChain aLe aLt (eC (.int 0)) (eVar 2) (eB1 lenD (bVar 0))) (eChain aLe aLt (eC (.int 0)) (eVar 3) (eB1 lenD (eIxV 0 (eC (.int 0))))))))
def m_is_inside : Fn := ⟨[], runDef [] 4 b_is_inside⟩
theorem ok_is_inside (t : Txt K mg T) {fd : FuncData} (D : DefT K mg T "is_inside" "is_inside" "is_inside" s_is_inside ["rows", "place"] fd) : FnOk P w K mg base (L2.CX P w) 1 (T.fn "is_inside") fd ["rows", "place"] (spF T 2 m_is_inside) := by
  refine Fun.def2 (k := 0) (n := 4) (np := 2) T [] b_is_inside D.fn sc_is_inside rfl rfl (by decide) (by decide) fun cdv A outer s H E hr => ?_
  have tk := takes_of (X := cxOf (L2.CX P w) P w K mg base ["rows", "place", "row", "column"] "is_inside" (defScope s_is_inside) (T.fn "is_inside") cdv A outer s H E) rfl rfl rfl rfl
  exact (PXSs.cons (PXS.unp (PX.var 1) (PXG.tup (n := 2) rfl (PXGs.cons (PXG.nm 2 sc_is_inside.nd) (PXGs.cons (PXG.nm 3 sc_is_inside.nd) PXGs.nil)) rfl rfl tu2))
    (PXSs.one (PXS.ret (PX.and (PX.chain (op_aLe hr.u0) (op_aLt hr.u0) PX.int (PX.var 2) (PX.b (PX.b1 (call_lenD' t.scr) (PXB.var 0) t.n_len bt_len))) (PX.one (PX.chain (op_aLe hr.u0) (op_aLt hr.u0) PX.int (PX.var 3) (PX.b (PX.b1 (call_lenD' t.scr) (PX.b (PX.ixV 0 t.scr hr.u1 PX.int)) t.n_len bt_len))))))))
/-! has_sign: slots 0 rows, 1 place, 2 signs, 3 row, 4 column; own False -/
theorem sc_has_sign : FnScope ["rows", "place", "signs", "row", "column"] ["rows", "place", "signs"] (defScope s_has_sign) := ⟨rfl, rfl, rfl, by decide +kernel, rfl, by decide +kernel, by decide +kernel⟩
def b_has_sign : M Fl := (sSeq (sUnp (gTu (gNs (gNm 3) (gNs (gNm 4) gN0))) (eVar 1))
    (sRet (eAnd (mCall 2 m_is_inside (aVal (eVar 0) (aVal (eVar 1) aNil))) (eOp dIn (eIx (eIxV 0 (eVar 3)) (eVar 4)) (bVar 2)))))
def m_has_sign : Fn := ⟨[], runDef [] 5 b_has_sign⟩
theorem ok_has_sign (t : Txt K mg T) {fd : FuncData} (D : DefT K mg T "has_sign" "has_sign" "has_sign" s_has_sign ["rows", "place", "signs"] fd) : FnOk P w K mg base (L2.CX P w) 2 (T.fn "has_sign") fd ["rows", "place", "signs"] (spF T 3 m_has_sign) := by
  obtain ⟨fd_is_inside, D_is_inside⟩ := t.f_is_inside
  have G_is_inside := ok_is_inside (P := P) (w := w) (base := base) t D_is_inside
  refine Fun.def2 (k := 1) (n := 5) (np := 3) T [] b_has_sign D.fn sc_has_sign rfl rfl (by decide) (by decide) fun cdv A outer s H E hr => ?_
  have tk := takes_of (X := cxOf (L2.CX P w) P w K mg base ["rows", "place", "signs", "row", "column"] "has_sign" (defScope s_has_sign) (T.fn "has_sign") cdv A outer s H E) rfl rfl rfl rfl
  exact (PXSs.cons (PXS.unp (PX.var 1) (PXG.tup (n := 2) rfl (PXGs.cons (PXG.nm 3 sc_has_sign.nd) (PXGs.cons (PXG.nm 4 sc_has_sign.nd) PXGs.nil)) rfl rfl tu2))
    (PXSs.one (PXS.ret (PX.and (PX.call G_is_inside (hr.mono (by omega)) D_is_inside.gl D_is_inside.kp D_is_inside.bi tk (PXA.val (PX.var 0) (PXA.val (PX.var 1) PXA.nil))) (PX.one (PX.cmp (op_dIn hr.u65) (PX.ix t.scr hr.u1 (PX.ixV 0 t.scr hr.u1 (PX.var 3)) (PX.var 4)) (PXB.var 2) rfl))))))
/-! are_sources: slots 0 rows, 1 sources, 2 source; own False -/
theorem sc_are_sources : FnScope ["rows", "sources", "source"] ["rows", "sources"] (defScope s_are_sources) := ⟨rfl, rfl, rfl, by decide +kernel, rfl, by decide +kernel, by decide +kernel⟩
def q1_are_sources : M D := (mCall 3 m_has_sign (aVal (eVar 0) (aVal (eVar 2) (aVal (eC (.str "123456789")) aNil))))
def b_are_sources : M Fl := (sSeq (sIf (tOr' (tNot' (tVal (eChain aLe aLe (eC (.int 1)) (eB1 lenD (bVar 1)) (eC (.int 6))))) (tNot' (tTru (mCall 1 m_is_ascending (aVal (eVar 1) aNil))))) (sRet (eC (.bl false))) sNil)
    (sRet (eB1 allD (eLc (gNm 2) (iAny (eVar 1)) tYs q1_are_sources [2]))))
def m_are_sources : Fn := ⟨[], runDef [] 3 b_are_sources⟩
theorem ok_are_sources (t : Txt K mg T) {fd : FuncData} (D : DefT K mg T "are_sources" "are_sources" "are_sources" s_are_sources ["rows", "sources"] fd) : FnOk P w K mg base (L2.CX P w) 3 (T.fn "are_sources") fd ["rows", "sources"] (spF T 2 m_are_sources) := by
  obtain ⟨fd_has_sign, D_has_sign⟩ := t.f_has_sign
  have G_has_sign := ok_has_sign (P := P) (w := w) (base := base) t D_has_sign
  obtain ⟨fd_is_ascending, D_is_ascending⟩ := t.f_is_ascending
  have G_is_ascending := ok_is_ascending (P := P) (w := w) (base := base) t D_is_ascending
  obtain ⟨_, K_MOST_SOURCES⟩ := t.c_MOST_SOURCES
  obtain ⟨_, K_WATER⟩ := t.c_WATER
  refine Fun.def2 (k := 2) (n := 3) (np := 2) T [] b_are_sources D.fn sc_are_sources rfl rfl (by decide) (by decide) fun cdv A outer s H E hr => ?_
  have tk := takes_of (X := cxOf (L2.CX P w) P w K mg base ["rows", "sources", "source"] "are_sources" (defScope s_are_sources) (T.fn "are_sources") cdv A outer s H E) rfl rfl rfl rfl
  exact (PXSs.cons (PXS.ifS (PXW.t (PXW.or (PXT.not (PXT.chain (op_aLe hr.u0) (op_aLe hr.u0) PX.int (PX.b1 (call_lenD' t.scr) (PXB.var 1) t.n_len bt_len) (PX.b (PX.gint rfl K_MOST_SOURCES)))) (PXW.or1 (PXT.not (PXT.tru (PX.b (PX.call G_is_ascending (hr.mono (by omega)) D_is_ascending.gl D_is_ascending.kp D_is_ascending.bi tk (PXA.val (PX.var 1) PXA.nil)))))))) (PXSs.one (PXS.ret PX.bl)) PXSs.nil)
    (PXSs.one (PXS.ret (PX.b1 (call_allD rfl) (PXO.b (PXO.lc [("source", 2)] rfl sc_are_sources.nd (PXI.any t.scr (PX.var 1)) (by kernel_rfl) (fun _ _ _ _ _ => (PXC.nm 2 (by decide) sc_are_sources.nd)) (fun _ _ _ _ _ => PXTs.nil) (fun _ _ _ _ _ => (PX.call G_has_sign (hr.mono (by omega)) D_has_sign.gl D_has_sign.kp D_has_sign.bi takes0 (PXA.val (PX.var 0) (PXA.val (PX.var 2) (PXA.val (PX.gstr rfl K_WATER) PXA.nil))))))) t.n_all bt_all))))
/-! Chart.__init__: slots 0 self, 1 rows, 2 sources; own False -/
theorem sc_Chart_init : FnScope ["self", "rows", "sources"] ["self", "rows", "sources"] (defScope s_Chart_init) := ⟨rfl, rfl, rfl, by decide +kernel, rfl, by decide +kernel, by decide +kernel⟩
def b_Chart_init : M Fl := (sSeq (sIf (tOr' (tNot' (tTru (mCall 1 m_are_rows (aVal (eVar 1) aNil)))) (tNot' (tTru (mCall 2 m_are_sources (aVal (eVar 1) (aVal (eVar 2) aNil)))))) (sRaise "BadChart") sNil)
    (sSeq (sSetF "Chart" 0 "rows" (eVar 1))
    (sSetF "Chart" 0 "sources" (eVar 2))))
def m_Chart_init : Fn := ⟨[0], runDef [0] 3 b_Chart_init⟩
theorem ok_Chart_init (t : Txt K mg T) {fd : FuncData} (D : DefM K T "Chart.__init__" "__init__" "Chart.__init__" s_Chart_init ["self", "rows", "sources"] fd) : FnOk P w K mg base (L2.CX P w) 4 (T.fn "Chart.__init__") fd ["self", "rows", "sources"] (spF T 3 m_Chart_init) := by
  obtain ⟨fd_are_rows, D_are_rows⟩ := t.f_are_rows
  have G_are_rows := ok_are_rows (P := P) (w := w) (base := base) t D_are_rows
  obtain ⟨fd_are_sources, D_are_sources⟩ := t.f_are_sources
  have G_are_sources := ok_are_sources (P := P) (w := w) (base := base) t D_are_sources
  refine Fun.def2 (k := 3) (n := 3) (np := 3) T [0] b_Chart_init D.fn sc_Chart_init rfl rfl (by decide) (by decide) fun cdv A outer s H E hr => ?_
  have tk := takes_of (X := cxOf (L2.CX P w) P w K mg base ["self", "rows", "sources"] "Chart.__init__" (defScope s_Chart_init) (T.fn "Chart.__init__") cdv A outer s H E) rfl rfl rfl rfl
  exact (PXSs.cons (PXS.ifS (PXW.t (PXW.or (PXT.not (PXT.tru (PX.b (PX.call G_are_rows (hr.mono (by omega)) D_are_rows.gl D_are_rows.kp D_are_rows.bi tk (PXA.val (PX.var 1) PXA.nil))))) (PXW.or1 (PXT.not (PXT.tru (PX.b (PX.call G_are_sources (hr.mono (by omega)) D_are_sources.gl D_are_sources.kp D_are_sources.bi tk (PXA.val (PX.var 1) (PXA.val (PX.var 2) PXA.nil))))))))) (PXSs.one (PXS.raise0 t.x_BadChart.at rfl t.e_BadChart tk)) PXSs.nil)
    (PXSs.cons (PXS.setF 0 t.a_Chart (PX.var 1))
    (PXSs.one (PXS.setF 0 t.a_Chart (PX.var 2)))))
/-! is_water: slots 0 chart, 1 place; own False -/
theorem sc_is_water : FnScope ["chart", "place"] ["chart", "place"] (defScope s_is_water) := ⟨rfl, rfl, rfl, by decide +kernel, rfl, by decide +kernel, by decide +kernel⟩
def b_is_water : M Fl := (sRet (mCall 3 m_has_sign (aVal (eFldC "Chart" "rows" (bVar 0)) (aVal (eVar 1) (aVal (eC (.str "123456789")) aNil)))))
def m_is_water : Fn := ⟨[], runDef [] 2 b_is_water⟩
theorem ok_is_water (t : Txt K mg T) {fd : FuncData} (D : DefT K mg T "is_water" "is_water" "is_water" s_is_water ["chart", "place"] fd) : FnOk P w K mg base (L2.CX P w) 3 (T.fn "is_water") fd ["chart", "place"] (spF T 2 m_is_water) := by
  obtain ⟨fd_has_sign, D_has_sign⟩ := t.f_has_sign
  have G_has_sign := ok_has_sign (P := P) (w := w) (base := base) t D_has_sign
  obtain ⟨_, K_WATER⟩ := t.c_WATER
  refine Fun.def2 (k := 2) (n := 2) (np := 2) T [] b_is_water D.fn sc_is_water rfl rfl (by decide) (by decide) fun cdv A outer s H E hr => ?_
  have tk := takes_of (X := cxOf (L2.CX P w) P w K mg base ["chart", "place"] "is_water" (defScope s_is_water) (T.fn "is_water") cdv A outer s H E) rfl rfl rfl rfl
  exact (PXSs.one (PXS.ret (PX.call G_has_sign (hr.mono (by omega)) D_has_sign.gl D_has_sign.kp D_has_sign.bi tk (PXA.val (PX.fld t.a_Chart (PXB.var 0)) (PXA.val (PX.var 1) (PXA.val (PX.gstr rfl K_WATER) PXA.nil))))))
/-! beside: slots 0 chart, 1 place, 2 row, 3 column, 4 around, 5 other; own False -/
theorem sc_beside : FnScope ["chart", "place", "row", "column", "around", "other"] ["chart", "place"] (defScope s_beside) := ⟨rfl, rfl, rfl, by decide +kernel, rfl, by decide +kernel, by decide +kernel⟩
def b_beside : M Fl := (sSeq (sUnp (gTu (gNs (gNm 2) (gNs (gNm 3) gN0))) (eVar 1))
    (sSeq (sSet 4 (eTup (aVal (eTup (aVal (eOp iSub (eVar 2) (eC (.int 1))) (aVal (eVar 3) aNil))) (aVal (eTup (aVal (eVar 2) (aVal (eOp iSub (eVar 3) (eC (.int 1))) aNil))) (aVal (eTup (aVal (eVar 2) (aVal (eOp aAdd (eVar 3) (eC (.int 1))) aNil))) (aVal (eTup (aVal (eOp aAdd (eVar 2) (eC (.int 1))) (aVal (eVar 3) aNil))) aNil))))))
    (sRet (eB1 tupleD (eLc (gNm 5) (iAny (eVar 4)) (tTru (mCall 2 m_is_inside (aVal (eFldC "Chart" "rows" (bVar 0)) (aVal (eVar 5) aNil)))) (eVar 5) [5])))))
def m_beside : Fn := ⟨[], runDef [] 6 b_beside⟩
theorem ok_beside (t : Txt K mg T) {fd : FuncData} (D : DefT K mg T "beside" "beside" "beside" s_beside ["chart", "place"] fd) : FnOk P w K mg base (L2.CX P w) 2 (T.fn "beside") fd ["chart", "place"] (spF T 2 m_beside) := by
  obtain ⟨fd_is_inside, D_is_inside⟩ := t.f_is_inside
  have G_is_inside := ok_is_inside (P := P) (w := w) (base := base) t D_is_inside
  refine Fun.def2 (k := 1) (n := 6) (np := 2) T [] b_beside D.fn sc_beside rfl rfl (by decide) (by decide) fun cdv A outer s H E hr => ?_
  have tk := takes_of (X := cxOf (L2.CX P w) P w K mg base ["chart", "place", "row", "column", "around", "other"] "beside" (defScope s_beside) (T.fn "beside") cdv A outer s H E) rfl rfl rfl rfl
  exact (PXSs.cons (PXS.unp (PX.var 1) (PXG.tup (n := 2) rfl (PXGs.cons (PXG.nm 2 sc_beside.nd) (PXGs.cons (PXG.nm 3 sc_beside.nd) PXGs.nil)) rfl rfl tu2))
    (PXSs.cons (PXS.set 4 (PX.tup (PXA.val (PX.tup (PXA.val (PX.op op_iSub (PX.var 2) (PX.b PX.int)) (PXA.val (PX.var 3) PXA.nil))) (PXA.val (PX.tup (PXA.val (PX.var 2) (PXA.val (PX.op op_iSub (PX.var 3) (PX.b PX.int)) PXA.nil))) (PXA.val (PX.tup (PXA.val (PX.var 2) (PXA.val (PX.op op_aAdd (PX.var 3) (PX.b PX.int)) PXA.nil))) (PXA.val (PX.tup (PXA.val (PX.op op_aAdd (PX.var 2) (PX.b PX.int)) (PXA.val (PX.var 3) PXA.nil))) PXA.nil))))) sc_beside.nd)
    (PXSs.one (PXS.ret (PX.y1 call_tupleD (PXO.b (PXO.lc [("other", 5)] rfl sc_beside.nd (PXI.any t.scr (PX.var 4)) (by kernel_rfl) (fun _ _ _ _ _ => (PXC.nm 5 (by decide) sc_beside.nd)) (fun _ _ _ _ _ => (PXTs.one (PXT.tru (PX.b (PX.call G_is_inside (hr.mono (by omega)) D_is_inside.gl D_is_inside.kp D_is_inside.bi takes0 (PXA.val (PX.fld t.a_Chart (PXB.var 0)) (PXA.val (PX.var 5) PXA.nil))))))) (fun _ _ _ _ _ => (PX.var 5)))) t.n_tuple bt_tuple)))))
/-! water_beside: slots 0 chart, 1 place, 2 other; own True -/
theorem sc_water_beside : FnScope ["chart", "place", "other"] ["chart", "place"] (defScope s_water_beside) := ⟨rfl, rfl, rfl, by decide +kernel, rfl, by decide +kernel, by decide +kernel⟩
def b_water_beside : M Fl := (sRetO (eLc (gNm 2) (iAny (mCall 2 m_beside (aVal (eVar 0) (aVal (eVar 1) aNil)))) (tTru (mCall 2 m_is_water (aVal (eVar 0) (aVal (eVar 2) aNil)))) (eVar 2) [2]))
def m_water_beside : Fn := ⟨[], runDef [] 3 b_water_beside⟩
theorem ok_water_beside (t : Txt K mg T) {fd : FuncData} (D : DefT K mg T "water_beside" "water_beside" "water_beside" s_water_beside ["chart", "place"] fd) : FnOk P w K mg base (L2.CX P w) 4 (T.fn "water_beside") fd ["chart", "place"] (spF T 2 m_water_beside) := by
  obtain ⟨fd_beside, D_beside⟩ := t.f_beside
  have G_beside := ok_beside (P := P) (w := w) (base := base) t D_beside
  obtain ⟨fd_is_water, D_is_water⟩ := t.f_is_water
  have G_is_water := ok_is_water (P := P) (w := w) (base := base) t D_is_water
  refine Fun.def2 (k := 3) (n := 3) (np := 2) T [] b_water_beside D.fn sc_water_beside rfl rfl (by decide) (by decide) fun cdv A outer s H E hr => ?_
  have tk := takes_of (X := cxOf (L2.CX P w) P w K mg base ["chart", "place", "other"] "water_beside" (defScope s_water_beside) (T.fn "water_beside") cdv A outer s H E) rfl rfl rfl rfl
  exact (PXSs.one (PXS.retE (PXO.lc [("other", 2)] rfl sc_water_beside.nd (PXI.any t.scr (PX.call G_beside (hr.mono (by omega)) D_beside.gl D_beside.kp D_beside.bi tk (PXA.val (PX.var 0) (PXA.val (PX.var 1) PXA.nil)))) (by kernel_rfl) (fun _ _ _ _ _ => (PXC.nm 2 (by decide) sc_water_beside.nd)) (fun _ _ _ _ _ => (PXTs.one (PXT.tru (PX.b (PX.call G_is_water (hr.mono (by omega)) D_is_water.gl D_is_water.kp D_is_water.bi takes0 (PXA.val (PX.var 0) (PXA.val (PX.var 2) PXA.nil))))))) (fun _ _ _ _ _ => (PX.var 2)))))
/-! crossing_minutes: slots 0 chart, 1 place, 2 row, 3 column; own False -/
theorem sc_crossing_minutes : FnScope ["chart", "place", "row", "column"] ["chart", "place"] (defScope s_crossing_minutes) := ⟨rfl, rfl, rfl, by decide +kernel, rfl, by decide +kernel, by decide +kernel⟩
def b_crossing_minutes : M Fl := (sSeq (sUnp (gTu (gNs (gNm 2) (gNs (gNm 3) gN0))) (eVar 1))
    (sRet (eB1 intD (eIx (eIx (eFldC "Chart" "rows" (bVar 0)) (eVar 2)) (eVar 3)))))
def m_crossing_minutes : Fn := ⟨[], runDef [] 4 b_crossing_minutes⟩
theorem ok_crossing_minutes (t : Txt K mg T) {fd : FuncData} (D : DefT K mg T "crossing_minutes" "crossing_minutes" "crossing_minutes" s_crossing_minutes ["chart", "place"] fd) : FnOk P w K mg base (L2.CX P w) 1 (T.fn "crossing_minutes") fd ["chart", "place"] (spF T 2 m_crossing_minutes) := by
  refine Fun.def2 (k := 0) (n := 4) (np := 2) T [] b_crossing_minutes D.fn sc_crossing_minutes rfl rfl (by decide) (by decide) fun cdv A outer s H E hr => ?_
  have tk := takes_of (X := cxOf (L2.CX P w) P w K mg base ["chart", "place", "row", "column"] "crossing_minutes" (defScope s_crossing_minutes) (T.fn "crossing_minutes") cdv A outer s H E) rfl rfl rfl rfl
  exact (PXSs.cons (PXS.unp (PX.var 1) (PXG.tup (n := 2) rfl (PXGs.cons (PXG.nm 2 sc_crossing_minutes.nd) (PXGs.cons (PXG.nm 3 sc_crossing_minutes.nd) PXGs.nil)) rfl rfl tu2))
    (PXSs.one (PXS.ret (PX.y1 call_intD (PX.b (PX.ix t.scr hr.u1 (PX.ix t.scr hr.u1 (PX.fld t.a_Chart (PXB.var 0)) (PX.var 2)) (PX.var 3))) t.n_int bt_int))))
/-! step_minutes: slots 0 chart, 1 one, 2 two; own False -/
theorem sc_step_minutes : FnScope ["chart", "one", "two"] ["chart", "one", "two"] (defScope s_step_minutes) := ⟨rfl, rfl, rfl, by decide +kernel, rfl, by decide +kernel, by decide +kernel⟩
def b_step_minutes : M Fl := (sRet (eOp aAdd (mCall 2 m_crossing_minutes (aVal (eVar 0) (aVal (eVar 1) aNil))) (mCall 2 m_crossing_minutes (aVal (eVar 0) (aVal (eVar 2) aNil)))))
def m_step_minutes : Fn := ⟨[], runDef [] 3 b_step_minutes⟩
theorem ok_step_minutes (t : Txt K mg T) {fd : FuncData} (D : DefT K mg T "step_minutes" "step_minutes" "step_minutes" s_step_minutes ["chart", "one", "two"] fd) : FnOk P w K mg base (L2.CX P w) 2 (T.fn "step_minutes") fd ["chart", "one", "two"] (spF T 3 m_step_minutes) := by
  obtain ⟨fd_crossing_minutes, D_crossing_minutes⟩ := t.f_crossing_minutes
  have G_crossing_minutes := ok_crossing_minutes (P := P) (w := w) (base := base) t D_crossing_minutes
  refine Fun.def2 (k := 1) (n := 3) (np := 3) T [] b_step_minutes D.fn sc_step_minutes rfl rfl (by decide) (by decide) fun cdv A outer s H E hr => ?_
  have tk := takes_of (X := cxOf (L2.CX P w) P w K mg base ["chart", "one", "two"] "step_minutes" (defScope s_step_minutes) (T.fn "step_minutes") cdv A outer s H E) rfl rfl rfl rfl
  exact (PXSs.one (PXS.ret (PX.op op_aAdd (PX.call G_crossing_minutes (hr.mono (by omega)) D_crossing_minutes.gl D_crossing_minutes.kp D_crossing_minutes.bi tk (PXA.val (PX.var 0) (PXA.val (PX.var 1) PXA.nil))) (PX.b (PX.call G_crossing_minutes (hr.mono (by omega)) D_crossing_minutes.gl D_crossing_minutes.kp D_crossing_minutes.bi tk (PXA.val (PX.var 0) (PXA.val (PX.var 2) PXA.nil)))))))
/-! reached_times: slots 0 chart, 1 cell, 2 times, 3 waiting, 4 time, 5 place, 6 other; own True -/
theorem sc_reached_times : FnScope ["chart", "cell", "times", "waiting", "time", "place", "other"] ["chart", "cell"] (defScope s_reached_times) := ⟨rfl, rfl, rfl, by decide +kernel, rfl, by decide +kernel, by decide +kernel⟩
def p1_reached_times : M Fl := (sExpr (eHPush 3 (eTup (aVal (eOp aAdd (eVar 4) (mCall 3 m_step_minutes (aVal (eVar 0) (aVal (eVar 5) (aVal (eVar 6) aNil))))) (aVal (eVar 6) aNil)))))
def b_reached_times : M Fl := (sSeq (sSetO 2 (eC (.dct [])))
    (sSeq (sSetO 3 (eLst (aVal (eTup (aVal (eC (.int 0)) (aVal (eVar 1) aNil))) aNil)))
    (sSeq (sWhl WN (tTru (bVar 3)) (sSeq (sUnp (gTu (gNs (gNm 4) (gNs (gNm 5) gN0))) (eHPop 3))
    (sIf (tVal (eOp dNotIn (eVar 5) (bVar 2))) (sSeq (sSetI 2 (eVar 5) (eVar 4))
    (sFor (gNm 6) (iAny (mCallO 2 m_water_beside (aVal (eVar 0) (aVal (eVar 5) aNil)))) p1_reached_times)) sNil)))
    (sRetV 2))))
def m_reached_times : Fn := ⟨[], runDef [] 7 b_reached_times⟩
theorem ok_reached_times (t : Txt K mg T) {fd : FuncData} (D : DefT K mg T "reached_times" "reached_times" "reached_times" s_reached_times ["chart", "cell"] fd) : FnOk P w K mg base (L2.CX P w) 5 (T.fn "reached_times") fd ["chart", "cell"] (spF T 2 m_reached_times) := by
  obtain ⟨fd_step_minutes, D_step_minutes⟩ := t.f_step_minutes
  have G_step_minutes := ok_step_minutes (P := P) (w := w) (base := base) t D_step_minutes
  obtain ⟨fd_water_beside, D_water_beside⟩ := t.f_water_beside
  have G_water_beside := ok_water_beside (P := P) (w := w) (base := base) t D_water_beside
  refine Fun.def2 (k := 4) (n := 7) (np := 2) T [] b_reached_times D.fn sc_reached_times rfl rfl (by decide) (by decide) fun cdv A outer s H E hr => ?_
  have tk := takes_of (X := cxOf (L2.CX P w) P w K mg base ["chart", "cell", "times", "waiting", "time", "place", "other"] "reached_times" (defScope s_reached_times) (T.fn "reached_times") cdv A outer s H E) rfl rfl rfl rfl
  exact (PXSs.cons (PXS.setO 2 PXO.dctNew sc_reached_times.nd)
    (PXSs.cons (PXS.setO 3 (PXO.lst (PXA.val (PX.tup (PXA.val PX.int (PXA.val (PX.var 1) PXA.nil))) PXA.nil)) sc_reached_times.nd)
    (PXSs.cons (PXS.whl WN (passes_of rfl) (PXT.tru (PXB.var 3)) (PXSs.cons (PXS.unp (PX.hpop 3 hr.u64 t.h_heappop) (PXG.tup (n := 2) rfl (PXGs.cons (PXG.nm 4 sc_reached_times.nd) (PXGs.cons (PXG.nm 5 sc_reached_times.nd) PXGs.nil)) rfl rfl tu2))
    (PXSs.one (PXS.ifS (PXT.cmp (op_dNotIn hr.u65) (PX.var 5) (PXB.var 2) rfl) (PXSs.cons (PXS.setI 2 hr.u1 (PX.var 5) (PX.var 4))
    (PXSs.one (PXS.forS (passes_of rfl) rfl (PXI.any t.scr (PXO.fz (PXO.call G_water_beside (hr.mono (by omega)) D_water_beside.gl D_water_beside.kp D_water_beside.bi tk (PXA.val (PX.var 0) (PXA.val (PX.var 5) PXA.nil))))) (PXG.nm 6 sc_reached_times.nd) (PXSs.one (PXS.expr (PX.hpush 3 hr.u64 (PX.tup (PXA.val (PX.op op_aAdd (PX.var 4) (PX.b (PX.call G_step_minutes (hr.mono (by omega)) D_step_minutes.gl D_step_minutes.kp D_step_minutes.bi tk (PXA.val (PX.var 0) (PXA.val (PX.var 5) (PXA.val (PX.var 6) PXA.nil)))))) (PXA.val (PX.var 6) PXA.nil))) t.h_heappush)))))) PXSs.nil))))
    (PXSs.one (PXS.retV 2)))))
/-! least_arrival: slots 0 time, 1 clock; own False -/
theorem sc_least_arrival : FnScope ["time", "clock"] ["time", "clock"] (defScope s_least_arrival) := ⟨rfl, rfl, rfl, by decide +kernel, rfl, by decide +kernel, by decide +kernel⟩
def b_least_arrival : M Fl := (sSeq (sIf (tVal (eOp dIsN (eVar 0) (eC .non))) (sRet (eOp aAdd (eVar 1) (eC (.int 1)))) sNil)
    (sRetV 0))
def m_least_arrival : Fn := ⟨[], runDef [] 2 b_least_arrival⟩
theorem ok_least_arrival (t : Txt K mg T) {fd : FuncData} (D : DefT K mg T "least_arrival" "least_arrival" "least_arrival" s_least_arrival ["time", "clock"] fd) : FnOk P w K mg base (L2.CX P w) 1 (T.fn "least_arrival") fd ["time", "clock"] (spF T 2 m_least_arrival) := by
  refine Fun.def2 (k := 0) (n := 2) (np := 2) T [] b_least_arrival D.fn sc_least_arrival rfl rfl (by decide) (by decide) fun cdv A outer s H E hr => ?_
  have tk := takes_of (X := cxOf (L2.CX P w) P w K mg base ["time", "clock"] "least_arrival" (defScope s_least_arrival) (T.fn "least_arrival") cdv A outer s H E) rfl rfl rfl rfl
  exact (PXSs.cons (PXS.ifS (PXT.cmp op_dIsN (PX.var 0) (PX.b PX.non) (nomark _)) (PXSs.one (PXS.ret (PX.op op_aAdd (PX.var 1) (PX.b PX.int)))) PXSs.nil)
    (PXSs.one (PXS.retV 0)))
/-! comes_too_soon: slots 0 times, 1 seen, 2 clock, 3 start, 4 other; own False -/
theorem sc_comes_too_soon : FnScope ["times", "seen", "clock", "start", "other"] ["times", "seen", "clock", "start", "other"] (defScope s_comes_too_soon) := ⟨rfl, rfl, rfl, by decide +kernel, rfl, by decide +kernel, by decide +kernel⟩
def b_comes_too_soon : M Fl := (sSeq (sIf (tOr' (tVal (eOp dNotIn (eVar 4) (bVar 1))) (tVal (eOp dNotIn (eVar 4) (bVar 0)))) (sRet (eC (.bl false))) sNil)
    (sRet (eOp aLt (eOp aAdd (eVar 3) (eIxV 0 (eVar 4))) (mCall 2 m_least_arrival (aVal (eIxV 1 (eVar 4)) (aVal (eVar 2) aNil))))))
def m_comes_too_soon : Fn := ⟨[], runDef [] 5 b_comes_too_soon⟩
theorem ok_comes_too_soon (t : Txt K mg T) {fd : FuncData} (D : DefT K mg T "comes_too_soon" "comes_too_soon" "comes_too_soon" s_comes_too_soon ["times", "seen", "clock", "start", "other"] fd) : FnOk P w K mg base (L2.CX P w) 2 (T.fn "comes_too_soon") fd ["times", "seen", "clock", "start", "other"] (spF T 5 m_comes_too_soon) := by
  obtain ⟨fd_least_arrival, D_least_arrival⟩ := t.f_least_arrival
  have G_least_arrival := ok_least_arrival (P := P) (w := w) (base := base) t D_least_arrival
  refine Fun.def2 (k := 1) (n := 5) (np := 5) T [] b_comes_too_soon D.fn sc_comes_too_soon rfl rfl (by decide) (by decide) fun cdv A outer s H E hr => ?_
  have tk := takes_of (X := cxOf (L2.CX P w) P w K mg base ["times", "seen", "clock", "start", "other"] "comes_too_soon" (defScope s_comes_too_soon) (T.fn "comes_too_soon") cdv A outer s H E) rfl rfl rfl rfl
  exact (PXSs.cons (PXS.ifS (PXW.t (PXW.or (PXT.cmp (op_dNotIn hr.u65) (PX.var 4) (PXB.var 1) rfl) (PXW.or1 (PXT.cmp (op_dNotIn hr.u65) (PX.var 4) (PXB.var 0) rfl)))) (PXSs.one (PXS.ret PX.bl)) PXSs.nil)
    (PXSs.one (PXS.ret (PX.cmp (op_aLt hr.u0) (PX.op op_aAdd (PX.var 3) (PX.b (PX.ixV 0 t.scr hr.u1 (PX.var 4)))) (PX.b (PX.call G_least_arrival (hr.mono (by omega)) D_least_arrival.gl D_least_arrival.kp D_least_arrival.bi tk (PXA.val (PX.ixV 1 t.scr hr.u1 (PX.var 4)) (PXA.val (PX.var 2) PXA.nil)))) (nomark _)))))
/-! is_right: slots 0 times, 1 seen, 2 clock, 3 gauge, 4 reason, 5 start; own False -/
theorem sc_is_right : FnScope ["times", "seen", "clock", "gauge", "reason", "start"] ["times", "seen", "clock", "gauge", "reason"] (defScope s_is_right) := ⟨rfl, rfl, rfl, by decide +kernel, rfl, by decide +kernel, by decide +kernel⟩
def b_is_right : M Fl := (sSeq (sIf (tVal (eOp dNotIn (eVar 3) (bVar 0))) (sRet (eOp dEq (eIxV 4 (eC (.int 0))) (eC (.str "far")))) sNil)
    (sSeq (sSet 5 (eOp iSub (eIxV 1 (eVar 3)) (eIxV 0 (eVar 3))))
    (sSeq (sIf (tVal (eOp dEq (eIxV 4 (eC (.int 0))) (eC (.str "reading")))) (sRet (mCall 5 m_comes_too_soon (aVal (eVar 0) (aVal (eVar 1) (aVal (eVar 2) (aVal (eVar 5) (aVal (eIxV 4 (eC (.int 1))) aNil))))))) sNil)
    (sRet (eAnd (eOp dEq (eIxV 4 (eC (.int 0))) (eC (.str "start"))) (eOp aLt (eVar 5) (eC (.int 0))))))))
def m_is_right : Fn := ⟨[], runDef [] 6 b_is_right⟩
theorem ok_is_right (t : Txt K mg T) {fd : FuncData} (D : DefT K mg T "is_right" "is_right" "is_right" s_is_right ["times", "seen", "clock", "gauge", "reason"] fd) : FnOk P w K mg base (L2.CX P w) 3 (T.fn "is_right") fd ["times", "seen", "clock", "gauge", "reason"] (spF T 5 m_is_right) := by
  obtain ⟨fd_comes_too_soon, D_comes_too_soon⟩ := t.f_comes_too_soon
  have G_comes_too_soon := ok_comes_too_soon (P := P) (w := w) (base := base) t D_comes_too_soon
  refine Fun.def2 (k := 2) (n := 6) (np := 5) T [] b_is_right D.fn sc_is_right rfl rfl (by decide) (by decide) fun cdv A outer s H E hr => ?_
  have tk := takes_of (X := cxOf (L2.CX P w) P w K mg base ["times", "seen", "clock", "gauge", "reason", "start"] "is_right" (defScope s_is_right) (T.fn "is_right") cdv A outer s H E) rfl rfl rfl rfl
  exact (PXSs.cons (PXS.ifS (PXT.cmp (op_dNotIn hr.u65) (PX.var 3) (PXB.var 0) rfl) (PXSs.one (PXS.ret (PX.cmp (op_dEq hr.u64) (PX.ixV 4 t.scr hr.u1 PX.int) (PX.b PX.str) (nomark _)))) PXSs.nil)
    (PXSs.cons (PXS.set 5 (PX.op op_iSub (PX.ixV 1 t.scr hr.u1 (PX.var 3)) (PX.b (PX.ixV 0 t.scr hr.u1 (PX.var 3)))) sc_is_right.nd)
    (PXSs.cons (PXS.ifS (PXT.cmp (op_dEq hr.u64) (PX.ixV 4 t.scr hr.u1 PX.int) (PX.b PX.str) (nomark _)) (PXSs.one (PXS.ret (PX.call G_comes_too_soon (hr.mono (by omega)) D_comes_too_soon.gl D_comes_too_soon.kp D_comes_too_soon.bi tk (PXA.val (PX.var 0) (PXA.val (PX.var 1) (PXA.val (PX.var 2) (PXA.val (PX.var 5) (PXA.val (PX.ixV 4 t.scr hr.u1 PX.int) PXA.nil)))))))) PXSs.nil)
    (PXSs.one (PXS.ret (PX.and (PX.cmp (op_dEq hr.u64) (PX.ixV 4 t.scr hr.u1 PX.int) (PX.b PX.str) (nomark _)) (PX.one (PX.cmp (op_aLt hr.u0) (PX.var 5) (PX.b PX.int) (nomark _)))))))))
/-! is_refutation: slots 0 chart, 1 readings, 2 clock, 3 gauge, 4 reasons, 5 seen, 6 place, 7 time, 8 source, 9 reason; own False -/
theorem sc_is_refutation : FnScope ["chart", "readings", "clock", "gauge", "reasons", "seen", "place", "time", "source", "reason"] ["chart", "readings", "clock", "gauge", "reasons"] (defScope s_is_refutation) := ⟨rfl, rfl, rfl, by decide +kernel, rfl, by decide +kernel, by decide +kernel⟩
def q1_is_refutation : M D := (mCall 5 m_is_right (aVal (mCallO 2 m_reached_times (aVal (eVar 0) (aVal (eVar 8) aNil))) (aVal (eVar 5) (aVal (eVar 2) (aVal (eVar 3) (aVal (eVar 9) aNil))))))
def b_is_refutation : M Fl := (sSeq (sSetO 5 (eDc (gTu (gNs (gNm 6) (gNs (gNm 7) gN0))) (iAny (eVar 1)) tYs (eVar 6) (eVar 7) [6, 7]))
    (sSeq (sIf (tOr' (tVal (eOp dIsN (eGetV 5 (eVar 3) (eC .non)) (eC .non))) (tVal (eOp dNe (eB1 lenD (bVar 4)) (eB1 lenD (eFldC "Chart" "sources" (bVar 0)))))) (sRet (eC (.bl false))) sNil)
    (sRet (eB1 allD (eLc (gTu (gNs (gNm 8) (gNs (gNm 9) gN0))) (iZip (eFldC "Chart" "sources" (bVar 0)) (eVar 4)) tYs q1_is_refutation [8, 9])))))
def m_is_refutation : Fn := ⟨[], runDef [] 10 b_is_refutation⟩
theorem ok_is_refutation (t : Txt K mg T) {fd : FuncData} (D : DefT K mg T "is_refutation" "is_refutation" "is_refutation" s_is_refutation ["chart", "readings", "clock", "gauge", "reasons"] fd) : FnOk P w K mg base (L2.CX P w) 6 (T.fn "is_refutation") fd ["chart", "readings", "clock", "gauge", "reasons"] (spF T 5 m_is_refutation) := by
  obtain ⟨fd_is_right, D_is_right⟩ := t.f_is_right
  have G_is_right := ok_is_right (P := P) (w := w) (base := base) t D_is_right
  obtain ⟨fd_reached_times, D_reached_times⟩ := t.f_reached_times
  have G_reached_times := ok_reached_times (P := P) (w := w) (base := base) t D_reached_times
  refine Fun.def2 (k := 5) (n := 10) (np := 5) T [] b_is_refutation D.fn sc_is_refutation rfl rfl (by decide) (by decide) fun cdv A outer s H E hr => ?_
  have tk := takes_of (X := cxOf (L2.CX P w) P w K mg base ["chart", "readings", "clock", "gauge", "reasons", "seen", "place", "time", "source", "reason"] "is_refutation" (defScope s_is_refutation) (T.fn "is_refutation") cdv A outer s H E) rfl rfl rfl rfl
  exact (PXSs.cons (PXS.setO 5 (PXO.dcJ [("place", 6), ("time", 7)] rfl hr.u64 sc_is_refutation.nd (PXI.j (PXI.any t.scr (PX.var 1))) (by kernel_rfl) (fun _ _ _ _ _ => (PXC.tup (n := 2) rfl (PXCs.cons (PXC.nm 6 (by decide) sc_is_refutation.nd) (PXCs.cons (PXC.nm 7 (by decide) sc_is_refutation.nd) PXCs.nil)) rfl rfl tu2)) (fun _ _ _ _ _ => PXTs.nil) (fun _ _ _ _ _ => (PX.var 6)) (fun _ _ _ _ _ => (PX.var 7))) sc_is_refutation.nd)
    (PXSs.cons (PXS.ifS (PXW.t (PXW.or (PXT.cmp op_dIsN (PX.get1V 5 hr.u64 (PX.var 3) ) (PX.b PX.non) (nomark _)) (PXW.or1 (PXT.cmp (op_dNe hr.u64) (PX.b1 (call_lenD' t.scr) (PXB.var 4) t.n_len bt_len) (PX.b (PX.b1 (call_lenD' t.scr) (PX.b (PX.fld t.a_Chart (PXB.var 0))) t.n_len bt_len)) (nomark _))))) (PXSs.one (PXS.ret PX.bl)) PXSs.nil)
    (PXSs.one (PXS.ret (PX.b1 (call_allD rfl) (PXO.b (PXO.lc [("source", 8), ("reason", 9)] rfl sc_is_refutation.nd (PXI.zip (PX.fld t.a_Chart (PXB.var 0)) (PX.var 4) t.n_zip) (by kernel_rfl) (fun _ _ _ _ _ => (PXC.tup (n := 2) rfl (PXCs.cons (PXC.nm 8 (by decide) sc_is_refutation.nd) (PXCs.cons (PXC.nm 9 (by decide) sc_is_refutation.nd) PXCs.nil)) rfl rfl tu2)) (fun _ _ _ _ _ => PXTs.nil) (fun _ _ _ _ _ => (PX.call G_is_right (hr.mono (by omega)) D_is_right.gl D_is_right.kp D_is_right.bi takes0 (PXA.val (PXO.fz (PXO.call G_reached_times (hr.mono (by omega)) D_reached_times.gl D_reached_times.kp D_reached_times.bi takes0 (PXA.val (PX.var 0) (PXA.val (PX.var 8) PXA.nil)))) (PXA.val (PX.var 5) (PXA.val (PX.var 2) (PXA.val (PX.var 3) (PXA.val (PX.var 9) PXA.nil))))))))) t.n_all bt_all)))))
/-! _law_is_integer: slots 0 actual; own False -/
theorem sc__law_is_integer : FnScope ["actual"] ["actual"] (defScope s__law_is_integer) := ⟨rfl, rfl, rfl, by decide +kernel, rfl, by decide +kernel, by decide +kernel⟩
def b__law_is_integer : M Fl := (sRet (eAnd (eB1 (isiD "int") (bVar 0)) (eNot (eB1 (isiD "bool") (bVar 0)))))
def m__law_is_integer : Fn := ⟨[], runDef [] 1 b__law_is_integer⟩
theorem ok__law_is_integer (t : Txt K mg T) {fd : FuncData} (D : DefT K mg T "_law_is_integer" "_law_is_integer" "_law_is_integer" s__law_is_integer ["actual"] fd) : FnOk P w K mg base (L2.CX P w) 1 (T.fn "_law_is_integer") fd ["actual"] (spF T 1 m__law_is_integer) := by
  refine Fun.def2 (k := 0) (n := 1) (np := 1) T [] b__law_is_integer D.fn sc__law_is_integer rfl rfl (by decide) (by decide) fun cdv A outer s H E hr => ?_
  have tk := takes_of (X := cxOf (L2.CX P w) P w K mg base ["actual"] "_law_is_integer" (defScope s__law_is_integer) (T.fn "_law_is_integer") cdv A outer s H E) rfl rfl rfl rfl
  exact (PXSs.one (PXS.ret (PX.and (PX.isT (PXB.var 0) t.n_isinstance t.n_int bt_int) (PX.one (PX.not (PX.isT (PXB.var 0) t.n_isinstance t.n_bool bt_bool))))))
/-! _law_same: slots 0 actual, 1 due, 2 at; own False -/
theorem sc__law_same : FnScope ["actual", "due", "at"] ["actual", "due"] (defScope s__law_same) := ⟨rfl, rfl, rfl, by decide +kernel, rfl, by decide +kernel, by decide +kernel⟩
def b__law_same : Nat → M Fl
  | 0 => fun _ => .bad
  | n + 1 => (sSeq (sIf (tTru (eB1 (isiD "tuple") (bVar 1))) (sSeq (sIf (tOr' (tNot' (tTru (eB1 (isiD "tuple") (bVar 0)))) (tVal (eOp dNe (eB1 lenD (bVar 0)) (eB1 lenD (bVar 1))))) (sRet (eC (.bl false))) sNil)
    (sRet (eB1 allD (eLc (gNm 2) (iR1 (eB1 lenD (bVar 1))) tYs (mCall 2 ⟨[], runDef [] 3 (b__law_same n)⟩ (aVal (eIxV 0 (eVar 2)) (aVal (eIxV 1 (eVar 2)) aNil))) [2])))) sNil)
    (sSeq (sIf (tTru (eB1 (isiD "bool") (bVar 1))) (sRet (eAnd (eB1 (isiD "bool") (bVar 0)) (eOp dEq (eVar 0) (bVar 1)))) sNil)
    (sSeq (sIf (tTru (eB1 (isiD "int") (bVar 1))) (sRet (eAnd (mCall 1 m__law_is_integer (aVal (eVar 0) aNil)) (eOp dEq (eVar 0) (bVar 1)))) sNil)
    (sSeq (sIf (tTru (eB1 (isiD "str") (bVar 1))) (sRet (eAnd (eB1 (isiD "str") (bVar 0)) (eOp dEq (eVar 0) (bVar 1)))) sNil)
    (sRet (eAnd (eOp dIsN (eVar 0) (eC .non)) (eOp dIsN (eVar 1) (eC .non))))))))
def m__law_same : Fn := ⟨[], runDef [] 3 (b__law_same 8)⟩
theorem okR__law_same (t : Txt K mg T) {fd : FuncData} (D : DefT K mg T "_law_same" "_law_same" "_law_same" s__law_same ["actual", "due"] fd) : ∀ n : Nat, FnOk P w K mg base (L2.CX P w) (1 + n) (T.fn "_law_same") fd ["actual", "due"] (spF T 2 ⟨[], runDef [] 3 (b__law_same n)⟩)
  | 0 => ⟨fun vs H Q E h => h.1, fun A outer s H args us vs Q E _ _ _ _ h => by obtain ⟨_, _, _, _, _, h⟩ := h; exact (show False from h).elim⟩
  | n + 1 => by
    have Grec := okR__law_same t D n
    obtain ⟨fd__law_is_integer, D__law_is_integer⟩ := t.f__law_is_integer
    have G__law_is_integer := ok__law_is_integer (P := P) (w := w) (base := base) t D__law_is_integer
    refine Fun.def2 (k := 1 + n) (n := 3) (np := 2) T [] (b__law_same (n + 1)) D.fn sc__law_same rfl rfl (by decide) (by decide) fun cdv A outer s H E hr => ?_
    have tk := takes_of (X := cxOf (L2.CX P w) P w K mg base ["actual", "due", "at"] "_law_same" (defScope s__law_same) (T.fn "_law_same") cdv A outer s H E) rfl rfl rfl rfl
    exact (PXSs.cons (PXS.ifS (PXT.tru (PX.b (PX.isT (PXB.var 1) t.n_isinstance t.n_tuple bt_tuple))) (PXSs.cons (PXS.ifS (PXW.t (PXW.or (PXT.not (PXT.tru (PX.b (PX.isT (PXB.var 0) t.n_isinstance t.n_tuple bt_tuple)))) (PXW.or1 (PXT.cmp (op_dNe hr.u64) (PX.b1 (call_lenD' t.scr) (PXB.var 0) t.n_len bt_len) (PX.b (PX.b1 (call_lenD' t.scr) (PXB.var 1) t.n_len bt_len)) (nomark _))))) (PXSs.one (PXS.ret PX.bl)) PXSs.nil)
    (PXSs.one (PXS.ret (PX.b1 (call_allD rfl) (PXO.b (PXO.lc [("at", 2)] rfl sc__law_same.nd (PXI.r1 (PX.b1 (call_lenD' t.scr) (PXB.var 1) t.n_len bt_len) t.n_range) (by kernel_rfl) (fun _ _ _ _ _ => (PXC.nm 2 (by decide) sc__law_same.nd)) (fun _ _ _ _ _ => PXTs.nil) (fun _ _ _ _ _ => (PX.call Grec (hr.mono (by omega)) D.gl D.kp D.bi takes0 (PXA.val (PX.ixV 0 t.scr hr.u1 (PX.var 2)) (PXA.val (PX.ixV 1 t.scr hr.u1 (PX.var 2)) PXA.nil)))))) t.n_all bt_all)))) PXSs.nil)
    (PXSs.cons (PXS.ifS (PXT.tru (PX.b (PX.isT (PXB.var 1) t.n_isinstance t.n_bool bt_bool))) (PXSs.one (PXS.ret (PX.and (PX.isT (PXB.var 0) t.n_isinstance t.n_bool bt_bool) (PX.one (PX.cmp (op_dEq hr.u64) (PX.var 0) (PXB.var 1) (nomark _)))))) PXSs.nil)
    (PXSs.cons (PXS.ifS (PXT.tru (PX.b (PX.isT (PXB.var 1) t.n_isinstance t.n_int bt_int))) (PXSs.one (PXS.ret (PX.and (PX.call G__law_is_integer (hr.mono (by omega)) D__law_is_integer.gl D__law_is_integer.kp D__law_is_integer.bi tk (PXA.val (PX.var 0) PXA.nil)) (PX.one (PX.cmp (op_dEq hr.u64) (PX.var 0) (PXB.var 1) (nomark _)))))) PXSs.nil)
    (PXSs.cons (PXS.ifS (PXT.tru (PX.b (PX.isT (PXB.var 1) t.n_isinstance t.n_str bt_str))) (PXSs.one (PXS.ret (PX.and (PX.isT (PXB.var 0) t.n_isinstance t.n_str bt_str) (PX.one (PX.cmp (op_dEq hr.u64) (PX.var 0) (PXB.var 1) (nomark _)))))) PXSs.nil)
    (PXSs.one (PXS.ret (PX.and (PX.cmp op_dIsN (PX.var 0) (PX.b PX.non) (nomark _)) (PX.one (PX.cmp op_dIsN (PX.var 1) (PX.b PX.non) (nomark _))))))))))
theorem ok__law_same (t : Txt K mg T) {fd : FuncData} (D : DefT K mg T "_law_same" "_law_same" "_law_same" s__law_same ["actual", "due"] fd) : FnOk P w K mg base (L2.CX P w) 9 (T.fn "_law_same") fd ["actual", "due"] (spF T 2 m__law_same) := okR__law_same t D 8
/-! _law_cell: slots 0 script, 1 k; own False -/
theorem sc__law_cell : FnScope ["script", "k"] ["script", "k"] (defScope s__law_cell) := ⟨rfl, rfl, rfl, by decide +kernel, rfl, by decide +kernel, by decide +kernel⟩
def b__law_cell : M Fl := (sSeq (sIf (tVal (eOp aLt (eVar 1) (eB1 lenD (bVar 0)))) (sRet (eB1 intD (eIxV 0 (eVar 1)))) sNil)
    (sRet (eC (.int 0))))
def m__law_cell : Fn := ⟨[], runDef [] 2 b__law_cell⟩
theorem ok__law_cell (t : Txt K mg T) {fd : FuncData} (D : DefT K mg T "_law_cell" "_law_cell" "_law_cell" s__law_cell ["script", "k"] fd) : FnOk P w K mg base (L2.CX P w) 1 (T.fn "_law_cell") fd ["script", "k"] (spF T 2 m__law_cell) := by
  refine Fun.def2 (k := 0) (n := 2) (np := 2) T [] b__law_cell D.fn sc__law_cell rfl rfl (by decide) (by decide) fun cdv A outer s H E hr => ?_
  have tk := takes_of (X := cxOf (L2.CX P w) P w K mg base ["script", "k"] "_law_cell" (defScope s__law_cell) (T.fn "_law_cell") cdv A outer s H E) rfl rfl rfl rfl
  exact (PXSs.cons (PXS.ifS (PXT.cmp (op_aLt hr.u0) (PX.var 1) (PX.b (PX.b1 (call_lenD' t.scr) (PXB.var 0) t.n_len bt_len)) (nomark _)) (PXSs.one (PXS.ret (PX.y1 call_intD (PX.b (PX.ixV 0 t.scr hr.u1 (PX.var 1))) t.n_int bt_int))) PXSs.nil)
    (PXSs.one (PXS.ret PX.int)))
/-! _law_digits: slots 0 cell, 1 at, 2 digits, 3 turn, 4 seed; own True -/
theorem sc__law_digits : FnScope ["cell", "at", "digits", "turn", "seed"] ["cell", "at"] (defScope s__law_digits) := ⟨rfl, rfl, rfl, by decide +kernel, rfl, by decide +kernel, by decide +kernel⟩
def p1__law_digits : M Fl := (sIf (tVal (eOp iGt (eVar 0) (eC (.int 0)))) (sSeq (sApp 2 (eOp iMod (eB1 intD (bVar 0)) (eC (.int 1000))))
    (sSet 0 (eOp iDiv (eVar 0) (eC (.int 1000))))) sNil)
def p2__law_digits : M Fl := (sSeq (sSet 4 (eOp iMod (eB1 intD (eOp aAdd (eOp aAdd (eOp aMul (eVar 4) (eC (.int 16807))) (eOp aMul (eC (.int 7)) (bVar 3))) (eC (.int 1)))) (eC (.int 2147483647))))
    (sApp 2 (eOp iMod (eB1 intD (eOp iDiv (eVar 4) (eC (.int 997)))) (eC (.int 1000)))))
def b__law_digits : M Fl := (sSeq (sSetO 2 (eLst aNil))
    (sSeq (sIf (tVal (eOp aLt (eVar 0) (eC (.int 0)))) (sSet 0 (eOp iSub (eC (.int 1)) (eOp aMul (eC (.int 2)) (bVar 0)))) sNil)
    (sSeq (sIf (tVal (eOp aGe (eVar 0) (eOp iPow (eC (.int 10)) (eC (.int 18))))) (sFor (gNm 3) (iR1 (eC (.int 60))) p1__law_digits) (sSeq (sSet 4 (eOp iMod (eB1 intD (eOp aAdd (eOp aAdd (eOp aMul (eVar 0) (eC (.int 48271))) (eOp aMul (eVar 1) (eC (.int 69621)))) (eC (.int 11)))) (eC (.int 2147483647))))
    (sFor (gNm 3) (iR1 (eC (.int 60))) p2__law_digits)))
    (sRetV 2))))
def m__law_digits : Fn := ⟨[], runDef [] 5 b__law_digits⟩
theorem ok__law_digits (t : Txt K mg T) {fd : FuncData} (D : DefT K mg T "_law_digits" "_law_digits" "_law_digits" s__law_digits ["cell", "at"] fd) : FnOk P w K mg base (L2.CX P w) 1 (T.fn "_law_digits") fd ["cell", "at"] (spF T 2 m__law_digits) := by
  refine Fun.def2 (k := 0) (n := 5) (np := 2) T [] b__law_digits D.fn sc__law_digits rfl rfl (by decide) (by decide) fun cdv A outer s H E hr => ?_
  have tk := takes_of (X := cxOf (L2.CX P w) P w K mg base ["cell", "at", "digits", "turn", "seed"] "_law_digits" (defScope s__law_digits) (T.fn "_law_digits") cdv A outer s H E) rfl rfl rfl rfl
  exact (PXSs.cons (PXS.setO 2 (PXO.lst PXA.nil) sc__law_digits.nd)
    (PXSs.cons (PXS.ifS (PXT.cmp (op_aLt hr.u0) (PX.var 0) (PX.b PX.int) (nomark _)) (PXSs.one (PXS.set 0 (PX.op op_iSub PX.int (PX.b (PX.op op_aMul PX.int (PXB.var 0)))) sc__law_digits.nd)) PXSs.nil)
    (PXSs.cons (PXS.ifS (PXT.cmp (op_aGe hr.u0) (PX.var 0) (PX.b (PX.op op_iPow PX.int (PX.b PX.int))) (nomark _)) (PXSs.one (PXS.forS (passes_of rfl) rfl (PXI.r1 PX.int t.n_range) (PXG.nm 3 sc__law_digits.nd) (PXSs.one (PXS.ifS (PXT.cmp op_iGt (PX.var 0) (PX.b PX.int) (nomark _)) (PXSs.cons (PXS.app 2 (PX.op op_iMod (PX.y1 call_intD (PXB.var 0) t.n_int bt_int) (PX.b PX.int)))
    (PXSs.one (PXS.set 0 (PX.op op_iDiv (PX.var 0) (PX.b PX.int)) sc__law_digits.nd))) PXSs.nil)))) (PXSs.cons (PXS.set 4 (PX.op op_iMod (PX.y1 call_intD (PX.b (PX.op op_aAdd (PX.op op_aAdd (PX.op op_aMul (PX.var 0) (PX.b PX.int)) (PX.b (PX.op op_aMul (PX.var 1) (PX.b PX.int)))) (PX.b PX.int))) t.n_int bt_int) (PX.b PX.int)) sc__law_digits.nd)
    (PXSs.one (PXS.forS (passes_of rfl) rfl (PXI.r1 PX.int t.n_range) (PXG.nm 3 sc__law_digits.nd) (PXSs.cons (PXS.set 4 (PX.op op_iMod (PX.y1 call_intD (PX.b (PX.op op_aAdd (PX.op op_aAdd (PX.op op_aMul (PX.var 4) (PX.b PX.int)) (PX.b (PX.op op_aMul PX.int (PXB.var 3)))) (PX.b PX.int))) t.n_int bt_int) (PX.b PX.int)) sc__law_digits.nd)
    (PXSs.one (PXS.app 2 (PX.op op_iMod (PX.y1 call_intD (PX.b (PX.op op_iDiv (PX.var 4) (PX.b PX.int))) t.n_int bt_int) (PX.b PX.int)))))))))
    (PXSs.one (PXS.retV 2)))))
/-! _law_box: slots 0 script, 1 at; own True -/
theorem sc__law_box : FnScope ["script", "at"] ["script", "at"] (defScope s__law_box) := ⟨rfl, rfl, rfl, by decide +kernel, rfl, by decide +kernel, by decide +kernel⟩
def b__law_box : M Fl := (sRetO (eLst (aVal (mCallO 2 m__law_digits (aVal (mCall 2 m__law_cell (aVal (eVar 0) (aVal (eVar 1) aNil))) (aVal (eVar 1) aNil))) (aVal (eC (.int 0)) aNil))))
def m__law_box : Fn := ⟨[], runDef [] 2 b__law_box⟩
theorem ok__law_box (t : Txt K mg T) {fd : FuncData} (D : DefT K mg T "_law_box" "_law_box" "_law_box" s__law_box ["script", "at"] fd) : FnOk P w K mg base (L2.CX P w) 2 (T.fn "_law_box") fd ["script", "at"] (spF T 2 m__law_box) := by
  obtain ⟨fd__law_cell, D__law_cell⟩ := t.f__law_cell
  have G__law_cell := ok__law_cell (P := P) (w := w) (base := base) t D__law_cell
  obtain ⟨fd__law_digits, D__law_digits⟩ := t.f__law_digits
  have G__law_digits := ok__law_digits (P := P) (w := w) (base := base) t D__law_digits
  refine Fun.def2 (k := 1) (n := 2) (np := 2) T [] b__law_box D.fn sc__law_box rfl rfl (by decide) (by decide) fun cdv A outer s H E hr => ?_
  have tk := takes_of (X := cxOf (L2.CX P w) P w K mg base ["script", "at"] "_law_box" (defScope s__law_box) (T.fn "_law_box") cdv A outer s H E) rfl rfl rfl rfl
  exact (PXSs.one (PXS.retE (PXO.lst (PXA.val (PXO.fz (PXO.call G__law_digits (hr.mono (by omega)) D__law_digits.gl D__law_digits.kp D__law_digits.bi tk (PXA.val (PX.call G__law_cell (hr.mono (by omega)) D__law_cell.gl D__law_cell.kp D__law_cell.bi tk (PXA.val (PX.var 0) (PXA.val (PX.var 1) PXA.nil))) (PXA.val (PX.var 1) PXA.nil)))) (PXA.val PX.int PXA.nil)))))
/-! _law_draw: slots 0 box, 1 many, 2 at; own False -/
theorem sc__law_draw : FnScope ["box", "many", "at"] ["box", "many"] (defScope s__law_draw) := ⟨rfl, rfl, rfl, by decide +kernel, rfl, by decide +kernel, by decide +kernel⟩
def b__law_draw : M Fl := (sSeq (sSet 2 (eIxV 0 (eC (.int 1))))
    (sSeq (sSetI 0 (eC (.int 1)) (eOp aAdd (eVar 2) (eC (.int 1))))
    (sSeq (sIf (tVal (eOp aLt (eVar 2) (eB1 lenD (eIxV 0 (eC (.int 0)))))) (sRet (eOp iMod (eB1 intD (eIx (eIxV 0 (eC (.int 0))) (eVar 2))) (bVar 1))) sNil)
    (sRet (eC (.int 0))))))
def m__law_draw : Fn := ⟨[0], runDef [0] 3 b__law_draw⟩
theorem ok__law_draw (t : Txt K mg T) {fd : FuncData} (D : DefT K mg T "_law_draw" "_law_draw" "_law_draw" s__law_draw ["box", "many"] fd) : FnOk P w K mg base (L2.CX P w) 1 (T.fn "_law_draw") fd ["box", "many"] (spF T 2 m__law_draw) := by
  refine Fun.def2 (k := 0) (n := 3) (np := 2) T [0] b__law_draw D.fn sc__law_draw rfl rfl (by decide) (by decide) fun cdv A outer s H E hr => ?_
  have tk := takes_of (X := cxOf (L2.CX P w) P w K mg base ["box", "many", "at"] "_law_draw" (defScope s__law_draw) (T.fn "_law_draw") cdv A outer s H E) rfl rfl rfl rfl
  exact (PXSs.cons (PXS.set 2 (PX.ixV 0 t.scr hr.u1 PX.int) sc__law_draw.nd)
    (PXSs.cons (PXS.setI 0 hr.u1 PX.int (PX.op op_aAdd (PX.var 2) (PX.b PX.int)))
    (PXSs.cons (PXS.ifS (PXT.cmp (op_aLt hr.u0) (PX.var 2) (PX.b (PX.b1 (call_lenD' t.scr) (PX.b (PX.ixV 0 t.scr hr.u1 PX.int)) t.n_len bt_len)) (nomark _)) (PXSs.one (PXS.ret (PX.op op_iMod (PX.y1 call_intD (PX.b (PX.ix t.scr hr.u1 (PX.ixV 0 t.scr hr.u1 PX.int) (PX.var 2))) t.n_int bt_int) (PXB.var 1)))) PXSs.nil)
    (PXSs.one (PXS.ret PX.int)))))
/-! _law_near: slots 0 rows, 1 place, 2 found, 3 move, 4 other; own True -/
theorem sc__law_near : FnScope ["rows", "place", "found", "move", "other"] ["rows", "place"] (defScope s__law_near) := ⟨rfl, rfl, rfl, by decide +kernel, rfl, by decide +kernel, by decide +kernel⟩
def p1__law_near : M Fl := (sSeq (sSet 4 (eTup (aVal (eOp aAdd (eIxV 1 (eC (.int 0))) (eIxV 3 (eC (.int 0)))) (aVal (eOp aAdd (eIxV 1 (eC (.int 1))) (eIxV 3 (eC (.int 1)))) aNil))))
    (sIf (tAnd' (tVal (eOp aLe (eC (.int 0)) (eIxV 4 (eC (.int 0))))) (tAnd' (tVal (eOp aLt (eIxV 4 (eC (.int 0))) (eB1 lenD (bVar 0)))) (tAnd' (tVal (eOp aLe (eC (.int 0)) (eIxV 4 (eC (.int 1))))) (tVal (eOp aLt (eIxV 4 (eC (.int 1))) (eB1 lenD (eIxV 0 (eC (.int 0))))))))) (sApp 2 (eVar 4)) sNil))
def b__law_near : M Fl := (sSeq (sSetO 2 (eLst aNil))
    (sSeq (sFor (gNm 3) (iAny (eTup (aVal (eTup (aVal (eNeg (eC (.int 1))) (aVal (eC (.int 0)) aNil))) (aVal (eTup (aVal (eC (.int 0)) (aVal (eNeg (eC (.int 1))) aNil))) (aVal (eTup (aVal (eC (.int 0)) (aVal (eC (.int 1)) aNil))) (aVal (eTup (aVal (eC (.int 1)) (aVal (eC (.int 0)) aNil))) aNil)))))) p1__law_near)
    (sRetV 2)))
def m__law_near : Fn := ⟨[], runDef [] 5 b__law_near⟩
theorem ok__law_near (t : Txt K mg T) {fd : FuncData} (D : DefT K mg T "_law_near" "_law_near" "_law_near" s__law_near ["rows", "place"] fd) : FnOk P w K mg base (L2.CX P w) 1 (T.fn "_law_near") fd ["rows", "place"] (spF T 2 m__law_near) := by
  refine Fun.def2 (k := 0) (n := 5) (np := 2) T [] b__law_near D.fn sc__law_near rfl rfl (by decide) (by decide) fun cdv A outer s H E hr => ?_
  have tk := takes_of (X := cxOf (L2.CX P w) P w K mg base ["rows", "place", "found", "move", "other"] "_law_near" (defScope s__law_near) (T.fn "_law_near") cdv A outer s H E) rfl rfl rfl rfl
  exact (PXSs.cons (PXS.setO 2 (PXO.lst PXA.nil) sc__law_near.nd)
    (PXSs.cons (PXS.forS (passes_of rfl) rfl (PXI.any t.scr (PX.tup (PXA.val (PX.tup (PXA.val (PX.neg PX.int) (PXA.val PX.int PXA.nil))) (PXA.val (PX.tup (PXA.val PX.int (PXA.val (PX.neg PX.int) PXA.nil))) (PXA.val (PX.tup (PXA.val PX.int (PXA.val PX.int PXA.nil))) (PXA.val (PX.tup (PXA.val PX.int (PXA.val PX.int PXA.nil))) PXA.nil)))))) (PXG.nm 3 sc__law_near.nd) (PXSs.cons (PXS.set 4 (PX.tup (PXA.val (PX.op op_aAdd (PX.ixV 1 t.scr hr.u1 PX.int) (PX.b (PX.ixV 3 t.scr hr.u1 PX.int))) (PXA.val (PX.op op_aAdd (PX.ixV 1 t.scr hr.u1 PX.int) (PX.b (PX.ixV 3 t.scr hr.u1 PX.int))) PXA.nil))) sc__law_near.nd)
    (PXSs.one (PXS.ifS (PXW.t (PXW.and (PXT.cmp (op_aLe hr.u0) PX.int (PX.b (PX.ixV 4 t.scr hr.u1 PX.int)) (nomark _)) (PXW.and (PXT.cmp (op_aLt hr.u0) (PX.ixV 4 t.scr hr.u1 PX.int) (PX.b (PX.b1 (call_lenD' t.scr) (PXB.var 0) t.n_len bt_len)) (nomark _)) (PXW.and (PXT.cmp (op_aLe hr.u0) PX.int (PX.b (PX.ixV 4 t.scr hr.u1 PX.int)) (nomark _)) (PXW.and1 (PXT.cmp (op_aLt hr.u0) (PX.ixV 4 t.scr hr.u1 PX.int) (PX.b (PX.b1 (call_lenD' t.scr) (PX.b (PX.ixV 0 t.scr hr.u1 PX.int)) t.n_len bt_len)) (nomark _))))))) (PXSs.one (PXS.app 2 (PX.var 4))) PXSs.nil))))
    (PXSs.one (PXS.retV 2))))
/-! _law_places: slots 0 rows, 1 signs, 2 found, 3 row, 4 column; own True -/
theorem sc__law_places : FnScope ["rows", "signs", "found", "row", "column"] ["rows", "signs"] (defScope s__law_places) := ⟨rfl, rfl, rfl, by decide +kernel, rfl, by decide +kernel, by decide +kernel⟩
def p1__law_places : M Fl := (sIf (tVal (eOp dIn (eIx (eIxV 0 (eVar 3)) (eVar 4)) (bVar 1))) (sApp 2 (eTup (aVal (eVar 3) (aVal (eVar 4) aNil)))) sNil)
def p2__law_places : M Fl := (sFor (gNm 4) (iR1 (eB1 lenD (eIxV 0 (eC (.int 0))))) p1__law_places)
def b__law_places : M Fl := (sSeq (sSetO 2 (eLst aNil))
    (sSeq (sFor (gNm 3) (iR1 (eB1 lenD (bVar 0))) p2__law_places)
    (sRetV 2)))
def m__law_places : Fn := ⟨[], runDef [] 5 b__law_places⟩
theorem ok__law_places (t : Txt K mg T) {fd : FuncData} (D : DefT K mg T "_law_places" "_law_places" "_law_places" s__law_places ["rows", "signs"] fd) : FnOk P w K mg base (L2.CX P w) 1 (T.fn "_law_places") fd ["rows", "signs"] (spF T 2 m__law_places) := by
  refine Fun.def2 (k := 0) (n := 5) (np := 2) T [] b__law_places D.fn sc__law_places rfl rfl (by decide) (by decide) fun cdv A outer s H E hr => ?_
  have tk := takes_of (X := cxOf (L2.CX P w) P w K mg base ["rows", "signs", "found", "row", "column"] "_law_places" (defScope s__law_places) (T.fn "_law_places") cdv A outer s H E) rfl rfl rfl rfl
  exact (PXSs.cons (PXS.setO 2 (PXO.lst PXA.nil) sc__law_places.nd)
    (PXSs.cons (PXS.forS (passes_of rfl) rfl (PXI.r1 (PX.b1 (call_lenD' t.scr) (PXB.var 0) t.n_len bt_len) t.n_range) (PXG.nm 3 sc__law_places.nd) (PXSs.one (PXS.forS (passes_of rfl) rfl (PXI.r1 (PX.b1 (call_lenD' t.scr) (PX.b (PX.ixV 0 t.scr hr.u1 PX.int)) t.n_len bt_len) t.n_range) (PXG.nm 4 sc__law_places.nd) (PXSs.one (PXS.ifS (PXT.cmp (op_dIn hr.u65) (PX.ix t.scr hr.u1 (PX.ixV 0 t.scr hr.u1 (PX.var 3)) (PX.var 4)) (PXB.var 1) rfl) (PXSs.one (PXS.app 2 (PX.tup (PXA.val (PX.var 3) (PXA.val (PX.var 4) PXA.nil))))) PXSs.nil)))))
    (PXSs.one (PXS.retV 2))))
def m__law_places_io0 : Fn := ⟨[0], runDef [0] 5 b__law_places⟩
theorem ok__law_places_io0 (t : Txt K mg T) {fd : FuncData} (D : DefT K mg T "_law_places" "_law_places" "_law_places" s__law_places ["rows", "signs"] fd) : FnOk P w K mg base (L2.CX P w) 1 (T.fn "_law_places") fd ["rows", "signs"] (spF T 2 m__law_places_io0) := by
  refine Fun.def2 (k := 0) (n := 5) (np := 2) T [0] b__law_places D.fn sc__law_places rfl rfl (by decide) (by decide) fun cdv A outer s H E hr => ?_
  have tk := takes_of (X := cxOf (L2.CX P w) P w K mg base ["rows", "signs", "found", "row", "column"] "_law_places" (defScope s__law_places) (T.fn "_law_places") cdv A outer s H E) rfl rfl rfl rfl
  exact (PXSs.cons (PXS.setO 2 (PXO.lst PXA.nil) sc__law_places.nd)
    (PXSs.cons (PXS.forS (passes_of rfl) rfl (PXI.r1 (PX.b1 (call_lenD' t.scr) (PXB.var 0) t.n_len bt_len) t.n_range) (PXG.nm 3 sc__law_places.nd) (PXSs.one (PXS.forS (passes_of rfl) rfl (PXI.r1 (PX.b1 (call_lenD' t.scr) (PX.b (PX.ixV 0 t.scr hr.u1 PX.int)) t.n_len bt_len) t.n_range) (PXG.nm 4 sc__law_places.nd) (PXSs.one (PXS.ifS (PXT.cmp (op_dIn hr.u65) (PX.ix t.scr hr.u1 (PX.ixV 0 t.scr hr.u1 (PX.var 3)) (PX.var 4)) (PXB.var 1) rfl) (PXSs.one (PXS.app 2 (PX.tup (PXA.val (PX.var 3) (PXA.val (PX.var 4) PXA.nil))))) PXSs.nil)))))
    (PXSs.one (PXS.retV 2))))
/-! _law_minutes: slots 0 rows, 1 place, 2 sign; own False -/
theorem sc__law_minutes : FnScope ["rows", "place", "sign"] ["rows", "place"] (defScope s__law_minutes) := ⟨rfl, rfl, rfl, by decide +kernel, rfl, by decide +kernel, by decide +kernel⟩
def b__law_minutes : M Fl := (sSeq (sSet 2 (eIx (eIxV 0 (eIxV 1 (eC (.int 0)))) (eIxV 1 (eC (.int 1)))))
    (sSeq (sIf (tVal (eOp dIn (eVar 2) (eC (.str "123456789")))) (sRet (eB1 intD (bVar 2))) sNil)
    (sSeq (sIf (tVal (eOp dIn (eVar 2) (eC (.str "abcdefghi")))) (sRet (eOp aAdd (eC (.int 1)) (eIdx (eC (.str "abcdefghi")) (eVar 2)))) sNil)
    (sRet (eC (.int 1))))))
def m__law_minutes : Fn := ⟨[], runDef [] 3 b__law_minutes⟩
theorem ok__law_minutes (t : Txt K mg T) {fd : FuncData} (D : DefT K mg T "_law_minutes" "_law_minutes" "_law_minutes" s__law_minutes ["rows", "place"] fd) : FnOk P w K mg base (L2.CX P w) 1 (T.fn "_law_minutes") fd ["rows", "place"] (spF T 2 m__law_minutes) := by
  refine Fun.def2 (k := 0) (n := 3) (np := 2) T [] b__law_minutes D.fn sc__law_minutes rfl rfl (by decide) (by decide) fun cdv A outer s H E hr => ?_
  have tk := takes_of (X := cxOf (L2.CX P w) P w K mg base ["rows", "place", "sign"] "_law_minutes" (defScope s__law_minutes) (T.fn "_law_minutes") cdv A outer s H E) rfl rfl rfl rfl
  exact (PXSs.cons (PXS.set 2 (PX.ix t.scr hr.u1 (PX.ixV 0 t.scr hr.u1 (PX.ixV 1 t.scr hr.u1 PX.int)) (PX.ixV 1 t.scr hr.u1 PX.int)) sc__law_minutes.nd)
    (PXSs.cons (PXS.ifS (PXT.cmp (op_dIn hr.u65) (PX.var 2) (PX.b PX.str) rfl) (PXSs.one (PXS.ret (PX.y1 call_intD (PXB.var 2) t.n_int bt_int))) PXSs.nil)
    (PXSs.cons (PXS.ifS (PXT.cmp (op_dIn hr.u65) (PX.var 2) (PX.b PX.str) rfl) (PXSs.one (PXS.ret (PX.op op_aAdd PX.int (PX.b (PX.idx PX.str (PX.var 2)))))) PXSs.nil)
    (PXSs.one (PXS.ret PX.int)))))
/-! _law_chart: slots 0 script, 1 first, 2 most, 3 start, 4 height, 5 width, 6 rows, 7 row, 8 box, 9 text, 10 column, 11 kind, 12 signs, 13 water, 14 sources, 15 place; own False -/
theorem sc__law_chart : FnScope ["script", "first", "most", "start", "height", "width", "rows", "row", "box", "text", "column", "kind", "signs", "water", "sources", "place"] ["script", "first", "most"] (defScope s__law_chart) := ⟨rfl, rfl, rfl, by decide +kernel, rfl, by decide +kernel, by decide +kernel⟩
def p1__law_chart : M Fl := (sSeq (sSet 11 (mCall 2 m__law_draw (aSl 8 (aVal (eC (.int 10)) aNil))))
    (sSeq (sSet 12 (eIx (eTup (aVal (eC (.str "111234")) (aVal (eC (.str "2")) (aVal (eC (.str "1379")) (aVal (eC (.str "123456789")) (aVal (eC (.str "abcd")) (aVal (eC (.str "a")) (aVal (eC (.str "aabi")) (aVal (eC (.str "abcdefghi")) (aVal (eC (.str "^")) (aVal (eC (.str "#")) aNil))))))))))) (eVar 11)))
    (sSet 9 (eOp aAdd (eVar 9) (eIxV 12 (mCall 2 m__law_draw (aSl 8 (aVal (eB1 lenD (bVar 12)) aNil))))))))
def p2__law_chart : M Fl := (sSeq (sSetO 8 (mCallO 2 m__law_box (aVal (eVar 0) (aVal (eOp aAdd (eOp aAdd (eVar 1) (eC (.int 1))) (bVar 7)) aNil))))
    (sSeq (sSet 9 (eC (.str "")))
    (sSeq (sFor (gNm 10) (iR1 (eVar 5)) p1__law_chart)
    (sApp 6 (eVar 9)))))
def p3__law_chart : M Fl := (sIf (tAnd' (tVal (eOp aLt (eB1 lenD (bVar 14)) (eC (.int 4)))) (tVal (eOp dEq (mCall 2 m__law_draw (aSl 3 (aVal (eC (.int 4)) aNil))) (eC (.int 0))))) (sApp 14 (eVar 15)) sNil)
def b__law_chart : M Fl := (sSeq (sSetO 3 (mCallO 2 m__law_box (aVal (eVar 0) (aVal (eVar 1) aNil))))
    (sSeq (sSet 4 (eOp aAdd (eC (.int 1)) (mCall 2 m__law_draw (aSl 3 (aVal (eVar 2) aNil)))))
    (sSeq (sSet 5 (eOp aAdd (eC (.int 1)) (mCall 2 m__law_draw (aSl 3 (aVal (eVar 2) aNil)))))
    (sSeq (sSetO 6 (eLst aNil))
    (sSeq (sFor (gNm 7) (iR1 (eVar 4)) p2__law_chart)
    (sSeq (sSetO 13 (mCallO 2 m__law_places_io0 (aSl 6 (aVal (eC (.str "123456789")) aNil))))
    (sSeq (sIf (tVal (eOp dEq (eB1 lenD (bVar 13)) (eC (.int 0)))) (sSeq (sSetI 6 (eC (.int 0)) (eOp aAdd (eC (.str "1")) (eSl (eIxV 6 (eC (.int 0))) (pAt (eC (.int 1))) pNo)))
    (sSetO 13 (eLst (aVal (eTup (aVal (eC (.int 0)) (aVal (eC (.int 0)) aNil))) aNil)))) sNil)
    (sSeq (sSetO 14 (eLst aNil))
    (sSeq (sFor (gNm 15) (iAny (eVar 13)) p3__law_chart)
    (sSeq (sIf (tVal (eOp dEq (eB1 lenD (bVar 14)) (eC (.int 0)))) (sApp 14 (eIxV 13 (mCall 2 m__law_draw (aSl 3 (aVal (eB1 lenD (bVar 13)) aNil))))) sNil)
    (sRet (eTup (aVal (eB1 tupleD (bVar 6)) (aVal (eB1 tupleD (bVar 14)) aNil))))))))))))))
def m__law_chart : Fn := ⟨[], runDef [] 16 b__law_chart⟩
theorem ok__law_chart (t : Txt K mg T) {fd : FuncData} (D : DefT K mg T "_law_chart" "_law_chart" "_law_chart" s__law_chart ["script", "first", "most"] fd) : FnOk P w K mg base (L2.CX P w) 3 (T.fn "_law_chart") fd ["script", "first", "most"] (spF T 3 m__law_chart) := by
  obtain ⟨fd__law_box, D__law_box⟩ := t.f__law_box
  have G__law_box := ok__law_box (P := P) (w := w) (base := base) t D__law_box
  obtain ⟨fd__law_draw, D__law_draw⟩ := t.f__law_draw
  have G__law_draw := ok__law_draw (P := P) (w := w) (base := base) t D__law_draw
  obtain ⟨fd__law_places, D__law_places⟩ := t.f__law_places
  have G__law_places := ok__law_places (P := P) (w := w) (base := base) t D__law_places
  have G__law_places_io0 := ok__law_places_io0 (P := P) (w := w) (base := base) t D__law_places
  refine Fun.def2 (k := 2) (n := 16) (np := 3) T [] b__law_chart D.fn sc__law_chart rfl rfl (by decide) (by decide) fun cdv A outer s H E hr => ?_
  have tk := takes_of (X := cxOf (L2.CX P w) P w K mg base ["script", "first", "most", "start", "height", "width", "rows", "row", "box", "text", "column", "kind", "signs", "water", "sources", "place"] "_law_chart" (defScope s__law_chart) (T.fn "_law_chart") cdv A outer s H E) rfl rfl rfl rfl
  exact (PXSs.cons (PXS.setO 3 (PXO.call G__law_box (hr.mono (by omega)) D__law_box.gl D__law_box.kp D__law_box.bi tk (PXA.val (PX.var 0) (PXA.val (PX.var 1) PXA.nil))) sc__law_chart.nd)
    (PXSs.cons (PXS.set 4 (PX.op op_aAdd PX.int (PX.b (PX.call G__law_draw (hr.mono (by omega)) D__law_draw.gl D__law_draw.kp D__law_draw.bi tk (PXA.sl 3 (PXA.val (PX.var 2) PXA.nil))))) sc__law_chart.nd)
    (PXSs.cons (PXS.set 5 (PX.op op_aAdd PX.int (PX.b (PX.call G__law_draw (hr.mono (by omega)) D__law_draw.gl D__law_draw.kp D__law_draw.bi tk (PXA.sl 3 (PXA.val (PX.var 2) PXA.nil))))) sc__law_chart.nd)
    (PXSs.cons (PXS.setO 6 (PXO.lst PXA.nil) sc__law_chart.nd)
    (PXSs.cons (PXS.forS (passes_of rfl) rfl (PXI.r1 (PX.var 4) t.n_range) (PXG.nm 7 sc__law_chart.nd) (PXSs.cons (PXS.setO 8 (PXO.call G__law_box (hr.mono (by omega)) D__law_box.gl D__law_box.kp D__law_box.bi tk (PXA.val (PX.var 0) (PXA.val (PX.op op_aAdd (PX.op op_aAdd (PX.var 1) (PX.b PX.int)) (PXB.var 7)) PXA.nil))) sc__law_chart.nd)
    (PXSs.cons (PXS.set 9 PX.str sc__law_chart.nd)
    (PXSs.cons (PXS.forS (passes_of rfl) rfl (PXI.r1 (PX.var 5) t.n_range) (PXG.nm 10 sc__law_chart.nd) (PXSs.cons (PXS.set 11 (PX.call G__law_draw (hr.mono (by omega)) D__law_draw.gl D__law_draw.kp D__law_draw.bi tk (PXA.sl 8 (PXA.val PX.int PXA.nil))) sc__law_chart.nd)
    (PXSs.cons (PXS.set 12 (PX.ix t.scr hr.u1 (PX.tup (PXA.val PX.str (PXA.val PX.str (PXA.val PX.str (PXA.val PX.str (PXA.val PX.str (PXA.val PX.str (PXA.val PX.str (PXA.val PX.str (PXA.val PX.str (PXA.val PX.str PXA.nil))))))))))) (PX.var 11)) sc__law_chart.nd)
    (PXSs.one (PXS.set 9 (PX.op op_aAdd (PX.var 9) (PX.b (PX.ixV 12 t.scr hr.u1 (PX.call G__law_draw (hr.mono (by omega)) D__law_draw.gl D__law_draw.kp D__law_draw.bi tk (PXA.sl 8 (PXA.val (PX.b1 (call_lenD' t.scr) (PXB.var 12) t.n_len bt_len) PXA.nil)))))) sc__law_chart.nd)))))
    (PXSs.one (PXS.app 6 (PX.var 9)))))))
    (PXSs.cons (PXS.setO 13 (PXO.call G__law_places_io0 (hr.mono (by omega)) D__law_places.gl D__law_places.kp D__law_places.bi tk (PXA.sl 6 (PXA.val PX.str PXA.nil))) sc__law_chart.nd)
    (PXSs.cons (PXS.ifS (PXT.cmp (op_dEq hr.u64) (PX.b1 (call_lenD' t.scr) (PXB.var 13) t.n_len bt_len) (PX.b PX.int) (nomark _)) (PXSs.cons (PXS.setI 6 hr.u1 PX.int (PX.op op_aAdd PX.str (PX.b (PX.sl (PX.ixV 6 t.scr hr.u1 PX.int) (PXP.at PX.int) PXP.no))))
    (PXSs.one (PXS.setO 13 (PXO.lst (PXA.val (PX.tup (PXA.val PX.int (PXA.val PX.int PXA.nil))) PXA.nil)) sc__law_chart.nd))) PXSs.nil)
    (PXSs.cons (PXS.setO 14 (PXO.lst PXA.nil) sc__law_chart.nd)
    (PXSs.cons (PXS.forS (passes_of rfl) rfl (PXI.any t.scr (PX.var 13)) (PXG.nm 15 sc__law_chart.nd) (PXSs.one (PXS.ifS (PXW.t (PXW.and (PXT.cmp (op_aLt hr.u0) (PX.b1 (call_lenD' t.scr) (PXB.var 14) t.n_len bt_len) (PX.b PX.int) (nomark _)) (PXW.and1 (PXT.cmp (op_dEq hr.u64) (PX.call G__law_draw (hr.mono (by omega)) D__law_draw.gl D__law_draw.kp D__law_draw.bi tk (PXA.sl 3 (PXA.val PX.int PXA.nil))) (PX.b PX.int) (nomark _))))) (PXSs.one (PXS.app 14 (PX.var 15))) PXSs.nil)))
    (PXSs.cons (PXS.ifS (PXT.cmp (op_dEq hr.u64) (PX.b1 (call_lenD' t.scr) (PXB.var 14) t.n_len bt_len) (PX.b PX.int) (nomark _)) (PXSs.one (PXS.app 14 (PX.ixV 13 t.scr hr.u1 (PX.call G__law_draw (hr.mono (by omega)) D__law_draw.gl D__law_draw.kp D__law_draw.bi tk (PXA.sl 3 (PXA.val (PX.b1 (call_lenD' t.scr) (PXB.var 13) t.n_len bt_len) PXA.nil)))))) PXSs.nil)
    (PXSs.one (PXS.ret (PX.tup (PXA.val (PX.y1 call_tupleD (PXB.var 6) t.n_tuple bt_tuple) (PXA.val (PX.y1 call_tupleD (PXB.var 14) t.n_tuple bt_tuple) PXA.nil)))))))))))))))
/-! _law_waves: slots 0 rows, 1 starts, 2 found, 3 turn, 4 moved, 5 place, 6 other, 7 time; own True -/
theorem sc__law_waves : FnScope ["rows", "starts", "found", "turn", "moved", "place", "other", "time"] ["rows", "starts"] (defScope s__law_waves) := ⟨rfl, rfl, rfl, by decide +kernel, rfl, by decide +kernel, by decide +kernel⟩
def p1__law_waves : M Fl := (sIf (tVal (eOp dIn (eIx (eIxV 0 (eIxV 6 (eC (.int 0)))) (eIxV 6 (eC (.int 1)))) (eC (.str "123456789")))) (sSeq (sSet 7 (eOp aAdd (eOp aAdd (eIxV 2 (eVar 5)) (mCall 2 m__law_minutes (aVal (eVar 0) (aVal (eVar 5) aNil)))) (mCall 2 m__law_minutes (aVal (eVar 0) (aVal (eVar 6) aNil)))))
    (sIf (tOr' (tVal (eOp dNotIn (eVar 6) (bVar 2))) (tVal (eOp aLt (eVar 7) (eIxV 2 (eVar 6))))) (sSeq (sSetI 2 (eVar 6) (eVar 7))
    (sSet 4 (eC (.bl true)))) sNil)) sNil)
def p2__law_waves : M Fl := (sFor (gNm 6) (iAny (mCallO 2 m__law_near (aVal (eVar 0) (aVal (eVar 5) aNil)))) p1__law_waves)
def p3__law_waves : M Fl := (sSeq (sSet 4 (eC (.bl false)))
    (sSeq (sFor (gNm 5) (iAny (eB1 sortD (eB1 listA (bVar 2)))) p2__law_waves)
    (sIf (tNot' (tTru (bVar 4))) (sRetV 2) sNil)))
def b__law_waves : M Fl := (sSeq (sSetO 2 (eB1 dictA (bVar 1)))
    (sSeq (sFor (gNm 3) (iR1 (eOp aMul (eB1 lenD (bVar 0)) (eB1 lenD (eIxV 0 (eC (.int 0)))))) p3__law_waves)
    (sRetV 2)))
def m__law_waves : Fn := ⟨[], runDef [] 8 b__law_waves⟩
theorem ok__law_waves (t : Txt K mg T) {fd : FuncData} (D : DefT K mg T "_law_waves" "_law_waves" "_law_waves" s__law_waves ["rows", "starts"] fd) : FnOk P w K mg base (L2.CX P w) 2 (T.fn "_law_waves") fd ["rows", "starts"] (spF T 2 m__law_waves) := by
  obtain ⟨fd__law_minutes, D__law_minutes⟩ := t.f__law_minutes
  have G__law_minutes := ok__law_minutes (P := P) (w := w) (base := base) t D__law_minutes
  obtain ⟨fd__law_near, D__law_near⟩ := t.f__law_near
  have G__law_near := ok__law_near (P := P) (w := w) (base := base) t D__law_near
  refine Fun.def2 (k := 1) (n := 8) (np := 2) T [] b__law_waves D.fn sc__law_waves rfl rfl (by decide) (by decide) fun cdv A outer s H E hr => ?_
  have tk := takes_of (X := cxOf (L2.CX P w) P w K mg base ["rows", "starts", "found", "turn", "moved", "place", "other", "time"] "_law_waves" (defScope s__law_waves) (T.fn "_law_waves") cdv A outer s H E) rfl rfl rfl rfl
  exact (PXSs.cons (PXS.setO 2 (PXO.y1 (call_dictA rfl (u4_of hr.u64)) (PXB.var 1) t.n_dict bt_dict) sc__law_waves.nd)
    (PXSs.cons (PXS.forS (passes_of rfl) rfl (PXI.r1 (PX.op op_aMul (PX.b1 (call_lenD' t.scr) (PXB.var 0) t.n_len bt_len) (PX.b (PX.b1 (call_lenD' t.scr) (PX.b (PX.ixV 0 t.scr hr.u1 PX.int)) t.n_len bt_len))) t.n_range) (PXG.nm 3 sc__law_waves.nd) (PXSs.cons (PXS.set 4 PX.bl sc__law_waves.nd)
    (PXSs.cons (PXS.forS (passes_of rfl) rfl (PXI.any t.scr (PXO.fz (PXO.b1 call_sortD (PXO.b (PXO.y1 (call_listA rfl) (PXB.var 2) t.n_list bt_list)) t.n_sorted bt_sorted))) (PXG.nm 5 sc__law_waves.nd) (PXSs.one (PXS.forS (passes_of rfl) rfl (PXI.any t.scr (PXO.fz (PXO.call G__law_near (hr.mono (by omega)) D__law_near.gl D__law_near.kp D__law_near.bi tk (PXA.val (PX.var 0) (PXA.val (PX.var 5) PXA.nil))))) (PXG.nm 6 sc__law_waves.nd) (PXSs.one (PXS.ifS (PXT.cmp (op_dIn hr.u65) (PX.ix t.scr hr.u1 (PX.ixV 0 t.scr hr.u1 (PX.ixV 6 t.scr hr.u1 PX.int)) (PX.ixV 6 t.scr hr.u1 PX.int)) (PX.b PX.str) rfl) (PXSs.cons (PXS.set 7 (PX.op op_aAdd (PX.op op_aAdd (PX.ixV 2 t.scr hr.u1 (PX.var 5)) (PX.b (PX.call G__law_minutes (hr.mono (by omega)) D__law_minutes.gl D__law_minutes.kp D__law_minutes.bi tk (PXA.val (PX.var 0) (PXA.val (PX.var 5) PXA.nil))))) (PX.b (PX.call G__law_minutes (hr.mono (by omega)) D__law_minutes.gl D__law_minutes.kp D__law_minutes.bi tk (PXA.val (PX.var 0) (PXA.val (PX.var 6) PXA.nil))))) sc__law_waves.nd)
    (PXSs.one (PXS.ifS (PXW.t (PXW.or (PXT.cmp (op_dNotIn hr.u65) (PX.var 6) (PXB.var 2) rfl) (PXW.or1 (PXT.cmp (op_aLt hr.u0) (PX.var 7) (PX.b (PX.ixV 2 t.scr hr.u1 (PX.var 6))) (nomark _))))) (PXSs.cons (PXS.setI 2 hr.u1 (PX.var 6) (PX.var 7))
    (PXSs.one (PXS.set 4 PX.bl sc__law_waves.nd))) PXSs.nil))) PXSs.nil)))))
    (PXSs.one (PXS.ifS (PXT.not (PXT.tru (PXB.var 4))) (PXSs.one (PXS.retV 2)) PXSs.nil)))))
    (PXSs.one (PXS.retV 2))))
/-! _law_event: slots 0 box, 1 sources, 2 most, 3 found, 4 source; own False -/
theorem sc__law_event : FnScope ["box", "sources", "most", "found", "source"] ["box", "sources", "most"] (defScope s__law_event) := ⟨rfl, rfl, rfl, by decide +kernel, rfl, by decide +kernel, by decide +kernel⟩
def p1__law_event : M Fl := (sIf (tVal (eOp iGt (mCall 2 m__law_draw (aSl 0 (aVal (eC (.int 3)) aNil))) (eC (.int 0)))) (sApp 3 (eTup (aVal (eVar 4) (aVal (mCall 2 m__law_draw (aSl 0 (aVal (eVar 2) aNil))) aNil)))) sNil)
def b__law_event : M Fl := (sSeq (sSetO 3 (eLst aNil))
    (sSeq (sFor (gNm 4) (iAny (eVar 1)) p1__law_event)
    (sSeq (sIf (tVal (eOp dEq (eB1 lenD (bVar 3)) (eC (.int 0)))) (sApp 3 (eTup (aVal (eIxV 1 (mCall 2 m__law_draw (aSl 0 (aVal (eB1 lenD (bVar 1)) aNil)))) (aVal (mCall 2 m__law_draw (aSl 0 (aVal (eVar 2) aNil))) aNil)))) sNil)
    (sRet (eB1 tupleD (bVar 3))))))
def m__law_event : Fn := ⟨[0], runDef [0] 5 b__law_event⟩
theorem ok__law_event (t : Txt K mg T) {fd : FuncData} (D : DefT K mg T "_law_event" "_law_event" "_law_event" s__law_event ["box", "sources", "most"] fd) : FnOk P w K mg base (L2.CX P w) 2 (T.fn "_law_event") fd ["box", "sources", "most"] (spF T 3 m__law_event) := by
  obtain ⟨fd__law_draw, D__law_draw⟩ := t.f__law_draw
  have G__law_draw := ok__law_draw (P := P) (w := w) (base := base) t D__law_draw
  refine Fun.def2 (k := 1) (n := 5) (np := 3) T [0] b__law_event D.fn sc__law_event rfl rfl (by decide) (by decide) fun cdv A outer s H E hr => ?_
  have tk := takes_of (X := cxOf (L2.CX P w) P w K mg base ["box", "sources", "most", "found", "source"] "_law_event" (defScope s__law_event) (T.fn "_law_event") cdv A outer s H E) rfl rfl rfl rfl
  exact (PXSs.cons (PXS.setO 3 (PXO.lst PXA.nil) sc__law_event.nd)
    (PXSs.cons (PXS.forS (passes_of rfl) rfl (PXI.any t.scr (PX.var 1)) (PXG.nm 4 sc__law_event.nd) (PXSs.one (PXS.ifS (PXT.cmp op_iGt (PX.call G__law_draw (hr.mono (by omega)) D__law_draw.gl D__law_draw.kp D__law_draw.bi tk (PXA.sl 0 (PXA.val PX.int PXA.nil))) (PX.b PX.int) (nomark _)) (PXSs.one (PXS.app 3 (PX.tup (PXA.val (PX.var 4) (PXA.val (PX.call G__law_draw (hr.mono (by omega)) D__law_draw.gl D__law_draw.kp D__law_draw.bi tk (PXA.sl 0 (PXA.val (PX.var 2) PXA.nil))) PXA.nil))))) PXSs.nil)))
    (PXSs.cons (PXS.ifS (PXT.cmp (op_dEq hr.u64) (PX.b1 (call_lenD' t.scr) (PXB.var 3) t.n_len bt_len) (PX.b PX.int) (nomark _)) (PXSs.one (PXS.app 3 (PX.tup (PXA.val (PX.ixV 1 t.scr hr.u1 (PX.call G__law_draw (hr.mono (by omega)) D__law_draw.gl D__law_draw.kp D__law_draw.bi tk (PXA.sl 0 (PXA.val (PX.b1 (call_lenD' t.scr) (PXB.var 1) t.n_len bt_len) PXA.nil)))) (PXA.val (PX.call G__law_draw (hr.mono (by omega)) D__law_draw.gl D__law_draw.kp D__law_draw.bi tk (PXA.sl 0 (PXA.val (PX.var 2) PXA.nil))) PXA.nil))))) PXSs.nil)
    (PXSs.one (PXS.ret (PX.y1 call_tupleD (PXB.var 3) t.n_tuple bt_tuple))))))
/-! _law_gauges: slots 0 box, 1 rows, 2 most, 3 found, 4 place; own False -/
theorem sc__law_gauges : FnScope ["box", "rows", "most", "found", "place"] ["box", "rows", "most"] (defScope s__law_gauges) := ⟨rfl, rfl, rfl, by decide +kernel, rfl, by decide +kernel, by decide +kernel⟩
def p1__law_gauges : M Fl := (sIf (tAnd' (tVal (eOp aLt (eB1 lenD (bVar 3)) (bVar 2))) (tVal (eOp dEq (mCall 2 m__law_draw (aSl 0 (aVal (eC (.int 3)) aNil))) (eC (.int 0))))) (sApp 3 (eVar 4)) sNil)
def b__law_gauges : M Fl := (sSeq (sSetO 3 (eLst aNil))
    (sSeq (sFor (gNm 4) (iAny (mCallO 2 m__law_places (aVal (eVar 1) (aVal (eC (.str "123456789")) aNil)))) p1__law_gauges)
    (sRet (eB1 tupleD (bVar 3)))))
def m__law_gauges : Fn := ⟨[0], runDef [0] 5 b__law_gauges⟩
theorem ok__law_gauges (t : Txt K mg T) {fd : FuncData} (D : DefT K mg T "_law_gauges" "_law_gauges" "_law_gauges" s__law_gauges ["box", "rows", "most"] fd) : FnOk P w K mg base (L2.CX P w) 2 (T.fn "_law_gauges") fd ["box", "rows", "most"] (spF T 3 m__law_gauges) := by
  obtain ⟨fd__law_draw, D__law_draw⟩ := t.f__law_draw
  have G__law_draw := ok__law_draw (P := P) (w := w) (base := base) t D__law_draw
  obtain ⟨fd__law_places, D__law_places⟩ := t.f__law_places
  have G__law_places := ok__law_places (P := P) (w := w) (base := base) t D__law_places
  refine Fun.def2 (k := 1) (n := 5) (np := 3) T [0] b__law_gauges D.fn sc__law_gauges rfl rfl (by decide) (by decide) fun cdv A outer s H E hr => ?_
  have tk := takes_of (X := cxOf (L2.CX P w) P w K mg base ["box", "rows", "most", "found", "place"] "_law_gauges" (defScope s__law_gauges) (T.fn "_law_gauges") cdv A outer s H E) rfl rfl rfl rfl
  exact (PXSs.cons (PXS.setO 3 (PXO.lst PXA.nil) sc__law_gauges.nd)
    (PXSs.cons (PXS.forS (passes_of rfl) rfl (PXI.any t.scr (PXO.fz (PXO.call G__law_places (hr.mono (by omega)) D__law_places.gl D__law_places.kp D__law_places.bi tk (PXA.val (PX.var 1) (PXA.val PX.str PXA.nil))))) (PXG.nm 4 sc__law_gauges.nd) (PXSs.one (PXS.ifS (PXW.t (PXW.and (PXT.cmp (op_aLt hr.u0) (PX.b1 (call_lenD' t.scr) (PXB.var 3) t.n_len bt_len) (PXB.var 2) (nomark _)) (PXW.and1 (PXT.cmp (op_dEq hr.u64) (PX.call G__law_draw (hr.mono (by omega)) D__law_draw.gl D__law_draw.kp D__law_draw.bi tk (PXA.sl 0 (PXA.val PX.int PXA.nil))) (PX.b PX.int) (nomark _))))) (PXSs.one (PXS.app 3 (PX.var 4))) PXSs.nil)))
    (PXSs.one (PXS.ret (PX.y1 call_tupleD (PXB.var 3) t.n_tuple bt_tuple)))))
/-! _law_seen: slots 0 rows, 1 event, 2 gauges, 3 clock, 4 times, 5 found, 6 gauge, 7 time; own False -/
theorem sc__law_seen : FnScope ["rows", "event", "gauges", "clock", "times", "found", "gauge", "time"] ["rows", "event", "gauges", "clock"] (defScope s__law_seen) := ⟨rfl, rfl, rfl, by decide +kernel, rfl, by decide +kernel, by decide +kernel⟩
def p1__law_seen : M Fl := (sSeq (sSet 7 (eGetV 4 (eVar 6) (eC .non)))
    (sApp 5 (eTup (aVal (eVar 6) (aVal (eIf (tOr' (tVal (eOp dIsN (eVar 7) (eC .non))) (tVal (eOp iGt (eVar 7) (bVar 3)))) (eC .non) (eVar 7)) aNil)))))
def b__law_seen : M Fl := (sSeq (sSetO 4 (mCallO 2 m__law_waves (aVal (eVar 0) (aVal (eVar 1) aNil))))
    (sSeq (sSetO 5 (eLst aNil))
    (sSeq (sFor (gNm 6) (iAny (eVar 2)) p1__law_seen)
    (sRet (eB1 tupleZ (bVar 5))))))
def m__law_seen : Fn := ⟨[], runDef [] 8 b__law_seen⟩
theorem ok__law_seen (t : Txt K mg T) {fd : FuncData} (D : DefT K mg T "_law_seen" "_law_seen" "_law_seen" s__law_seen ["rows", "event", "gauges", "clock"] fd) : FnOk P w K mg base (L2.CX P w) 3 (T.fn "_law_seen") fd ["rows", "event", "gauges", "clock"] (spF T 4 m__law_seen) := by
  obtain ⟨fd__law_waves, D__law_waves⟩ := t.f__law_waves
  have G__law_waves := ok__law_waves (P := P) (w := w) (base := base) t D__law_waves
  refine Fun.def2 (k := 2) (n := 8) (np := 4) T [] b__law_seen D.fn sc__law_seen rfl rfl (by decide) (by decide) fun cdv A outer s H E hr => ?_
  have tk := takes_of (X := cxOf (L2.CX P w) P w K mg base ["rows", "event", "gauges", "clock", "times", "found", "gauge", "time"] "_law_seen" (defScope s__law_seen) (T.fn "_law_seen") cdv A outer s H E) rfl rfl rfl rfl
  exact (PXSs.cons (PXS.setO 4 (PXO.call G__law_waves (hr.mono (by omega)) D__law_waves.gl D__law_waves.kp D__law_waves.bi tk (PXA.val (PX.var 0) (PXA.val (PX.var 1) PXA.nil))) sc__law_seen.nd)
    (PXSs.cons (PXS.setO 5 (PXO.lst PXA.nil) sc__law_seen.nd)
    (PXSs.cons (PXS.forS (passes_of rfl) rfl (PXI.any t.scr (PX.var 2)) (PXG.nm 6 sc__law_seen.nd) (PXSs.cons (PXS.set 7 (PX.get1V 4 hr.u64 (PX.var 6) ) sc__law_seen.nd)
    (PXSs.one (PXS.app 5 (PX.tup (PXA.val (PX.var 6) (PXA.val (PX.ifE (PXW.t (PXW.or (PXT.cmp op_dIsN (PX.var 7) (PX.b PX.non) (nomark _)) (PXW.or1 (PXT.cmp op_iGt (PX.var 7) (PXB.var 3) (nomark _))))) PX.non (PX.var 7)) PXA.nil)))))))
    (PXSs.one (PXS.ret (PX.y1 call_tupleZ (PXB.var 5) t.n_tuple bt_tuple))))))
/-! _law_story: slots 0 script, 1 most, 2 rows, 3 sources, 4 box, 5 event, 6 gauges, 7 clock; own False -/
theorem sc__law_story : FnScope ["script", "most", "rows", "sources", "box", "event", "gauges", "clock"] ["script", "most"] (defScope s__law_story) := ⟨rfl, rfl, rfl, by decide +kernel, rfl, by decide +kernel, by decide +kernel⟩
def b__law_story : M Fl := (sSeq (sUnp (gTu (gNs (gNm 2) (gNs (gNm 3) gN0))) (mCall 3 m__law_chart (aVal (eVar 0) (aVal (eC (.int 0)) (aVal (eVar 1) aNil)))))
    (sSeq (sSetO 4 (mCallO 2 m__law_box (aVal (eVar 0) (aVal (eC (.int 10)) aNil))))
    (sSeq (sSet 5 (mCall 3 m__law_event (aSl 4 (aVal (eVar 3) (aVal (eC (.int 12)) aNil)))))
    (sSeq (sSet 6 (mCall 3 m__law_gauges (aSl 4 (aVal (eVar 2) (aVal (eC (.int 4)) aNil)))))
    (sSeq (sSet 7 (mCall 2 m__law_draw (aSl 4 (aVal (eC (.int 30)) aNil))))
    (sRet (eTup (aVal (eVar 2) (aVal (eVar 3) (aVal (eVar 5) (aVal (mCall 4 m__law_seen (aVal (eVar 2) (aVal (eVar 5) (aVal (eVar 6) (aVal (eVar 7) aNil))))) (aVal (eVar 7) aNil))))))))))))
def m__law_story : Fn := ⟨[], runDef [] 8 b__law_story⟩
theorem ok__law_story (t : Txt K mg T) {fd : FuncData} (D : DefT K mg T "_law_story" "_law_story" "_law_story" s__law_story ["script", "most"] fd) : FnOk P w K mg base (L2.CX P w) 4 (T.fn "_law_story") fd ["script", "most"] (spF T 2 m__law_story) := by
  obtain ⟨fd__law_box, D__law_box⟩ := t.f__law_box
  have G__law_box := ok__law_box (P := P) (w := w) (base := base) t D__law_box
  obtain ⟨fd__law_chart, D__law_chart⟩ := t.f__law_chart
  have G__law_chart := ok__law_chart (P := P) (w := w) (base := base) t D__law_chart
  obtain ⟨fd__law_draw, D__law_draw⟩ := t.f__law_draw
  have G__law_draw := ok__law_draw (P := P) (w := w) (base := base) t D__law_draw
  obtain ⟨fd__law_event, D__law_event⟩ := t.f__law_event
  have G__law_event := ok__law_event (P := P) (w := w) (base := base) t D__law_event
  obtain ⟨fd__law_gauges, D__law_gauges⟩ := t.f__law_gauges
  have G__law_gauges := ok__law_gauges (P := P) (w := w) (base := base) t D__law_gauges
  obtain ⟨fd__law_seen, D__law_seen⟩ := t.f__law_seen
  have G__law_seen := ok__law_seen (P := P) (w := w) (base := base) t D__law_seen
  refine Fun.def2 (k := 3) (n := 8) (np := 2) T [] b__law_story D.fn sc__law_story rfl rfl (by decide) (by decide) fun cdv A outer s H E hr => ?_
  have tk := takes_of (X := cxOf (L2.CX P w) P w K mg base ["script", "most", "rows", "sources", "box", "event", "gauges", "clock"] "_law_story" (defScope s__law_story) (T.fn "_law_story") cdv A outer s H E) rfl rfl rfl rfl
  exact (PXSs.cons (PXS.unp (PX.call G__law_chart (hr.mono (by omega)) D__law_chart.gl D__law_chart.kp D__law_chart.bi tk (PXA.val (PX.var 0) (PXA.val PX.int (PXA.val (PX.var 1) PXA.nil)))) (PXG.tup (n := 2) rfl (PXGs.cons (PXG.nm 2 sc__law_story.nd) (PXGs.cons (PXG.nm 3 sc__law_story.nd) PXGs.nil)) rfl rfl tu2))
    (PXSs.cons (PXS.setO 4 (PXO.call G__law_box (hr.mono (by omega)) D__law_box.gl D__law_box.kp D__law_box.bi tk (PXA.val (PX.var 0) (PXA.val PX.int PXA.nil))) sc__law_story.nd)
    (PXSs.cons (PXS.set 5 (PX.call G__law_event (hr.mono (by omega)) D__law_event.gl D__law_event.kp D__law_event.bi tk (PXA.sl 4 (PXA.val (PX.var 3) (PXA.val PX.int PXA.nil)))) sc__law_story.nd)
    (PXSs.cons (PXS.set 6 (PX.call G__law_gauges (hr.mono (by omega)) D__law_gauges.gl D__law_gauges.kp D__law_gauges.bi tk (PXA.sl 4 (PXA.val (PX.var 2) (PXA.val PX.int PXA.nil)))) sc__law_story.nd)
    (PXSs.cons (PXS.set 7 (PX.call G__law_draw (hr.mono (by omega)) D__law_draw.gl D__law_draw.kp D__law_draw.bi tk (PXA.sl 4 (PXA.val PX.int PXA.nil))) sc__law_story.nd)
    (PXSs.one (PXS.ret (PX.tup (PXA.val (PX.var 2) (PXA.val (PX.var 3) (PXA.val (PX.var 5) (PXA.val (PX.call G__law_seen (hr.mono (by omega)) D__law_seen.gl D__law_seen.kp D__law_seen.bi tk (PXA.val (PX.var 2) (PXA.val (PX.var 5) (PXA.val (PX.var 6) (PXA.val (PX.var 7) PXA.nil))))) (PXA.val (PX.var 7) PXA.nil)))))))))))))
/-! _law_bent: slots 0 box, 1 readings, 2 clock, 3 found, 4 gauge, 5 time, 6 kind; own False -/
theorem sc__law_bent : FnScope ["box", "readings", "clock", "found", "gauge", "time", "kind"] ["box", "readings", "clock"] (defScope s__law_bent) := ⟨rfl, rfl, rfl, by decide +kernel, rfl, by decide +kernel, by decide +kernel⟩
def p1__law_bent : M Fl := (sSeq (sSet 6 (mCall 2 m__law_draw (aSl 0 (aVal (eC (.int 6)) aNil))))
    (sSeq (sIf (tVal (eOp dEq (eVar 6) (eC (.int 0)))) (sSet 5 (eC .non)) sNil)
    (sSeq (sIf (tVal (eOp dEq (eVar 6) (eC (.int 1)))) (sSet 5 (mCall 2 m__law_draw (aSl 0 (aVal (eOp aAdd (eVar 2) (eC (.int 1))) aNil)))) sNil)
    (sApp 3 (eTup (aVal (eVar 4) (aVal (eVar 5) aNil)))))))
def b__law_bent : M Fl := (sSeq (sSetO 3 (eLst aNil))
    (sSeq (sFor (gTu (gNs (gNm 4) (gNs (gNm 5) gN0))) (iAny (eVar 1)) p1__law_bent)
    (sRet (eB1 tupleZ (bVar 3)))))
def m__law_bent : Fn := ⟨[0], runDef [0] 7 b__law_bent⟩
theorem ok__law_bent (t : Txt K mg T) {fd : FuncData} (D : DefT K mg T "_law_bent" "_law_bent" "_law_bent" s__law_bent ["box", "readings", "clock"] fd) : FnOk P w K mg base (L2.CX P w) 2 (T.fn "_law_bent") fd ["box", "readings", "clock"] (spF T 3 m__law_bent) := by
  obtain ⟨fd__law_draw, D__law_draw⟩ := t.f__law_draw
  have G__law_draw := ok__law_draw (P := P) (w := w) (base := base) t D__law_draw
  refine Fun.def2 (k := 1) (n := 7) (np := 3) T [0] b__law_bent D.fn sc__law_bent rfl rfl (by decide) (by decide) fun cdv A outer s H E hr => ?_
  have tk := takes_of (X := cxOf (L2.CX P w) P w K mg base ["box", "readings", "clock", "found", "gauge", "time", "kind"] "_law_bent" (defScope s__law_bent) (T.fn "_law_bent") cdv A outer s H E) rfl rfl rfl rfl
  exact (PXSs.cons (PXS.setO 3 (PXO.lst PXA.nil) sc__law_bent.nd)
    (PXSs.cons (PXS.forS (passes_of rfl) rfl (PXI.any t.scr (PX.var 1)) (PXG.tup (n := 2) rfl (PXGs.cons (PXG.nm 4 sc__law_bent.nd) (PXGs.cons (PXG.nm 5 sc__law_bent.nd) PXGs.nil)) rfl rfl tu2) (PXSs.cons (PXS.set 6 (PX.call G__law_draw (hr.mono (by omega)) D__law_draw.gl D__law_draw.kp D__law_draw.bi tk (PXA.sl 0 (PXA.val PX.int PXA.nil))) sc__law_bent.nd)
    (PXSs.cons (PXS.ifS (PXT.cmp (op_dEq hr.u64) (PX.var 6) (PX.b PX.int) (nomark _)) (PXSs.one (PXS.set 5 PX.non sc__law_bent.nd)) PXSs.nil)
    (PXSs.cons (PXS.ifS (PXT.cmp (op_dEq hr.u64) (PX.var 6) (PX.b PX.int) (nomark _)) (PXSs.one (PXS.set 5 (PX.call G__law_draw (hr.mono (by omega)) D__law_draw.gl D__law_draw.kp D__law_draw.bi tk (PXA.sl 0 (PXA.val (PX.op op_aAdd (PX.var 2) (PX.b PX.int)) PXA.nil))) sc__law_bent.nd)) PXSs.nil)
    (PXSs.one (PXS.app 3 (PX.tup (PXA.val (PX.var 4) (PXA.val (PX.var 5) PXA.nil)))))))))
    (PXSs.one (PXS.ret (PX.y1 call_tupleZ (PXB.var 3) t.n_tuple bt_tuple)))))
/-! _law_too_early: slots 0 rows, 1 readings, 2 clock, 3 source, 4 gauge, 5 time, 6 other, 7 times, 8 place, 9 seen, 10 due; own False -/
theorem sc__law_too_early : FnScope ["rows", "readings", "clock", "source", "gauge", "time", "other", "times", "place", "seen", "due"] ["rows", "readings", "clock", "source", "gauge", "time", "other"] (defScope s__law_too_early) := ⟨rfl, rfl, rfl, by decide +kernel, rfl, by decide +kernel, by decide +kernel⟩
def p1__law_too_early : M Fl := (sIf (tAnd' (tVal (eOp dEq (eVar 8) (bVar 6))) (tAnd' (tVal (eOp dIn (eVar 8) (bVar 7))) (tVal (eOp dIn (eVar 4) (bVar 7))))) (sSeq (sSet 10 (eVar 9))
    (sSeq (sIf (tVal (eOp dIsN (eVar 9) (eC .non))) (sSet 10 (eOp aAdd (eVar 2) (eC (.int 1)))) sNil)
    (sRet (eOp aLt (eOp aAdd (eVar 5) (eIxV 7 (eVar 6))) (eOp aAdd (eVar 10) (eIxV 7 (eVar 4))))))) sNil)
def b__law_too_early : M Fl := (sSeq (sSetO 7 (mCallO 2 m__law_waves (aVal (eVar 0) (aVal (eDct1 (eVar 3) (eC (.int 0))) aNil))))
    (sSeq (sFor (gTu (gNs (gNm 8) (gNs (gNm 9) gN0))) (iAny (eVar 1)) p1__law_too_early)
    (sRet (eC (.bl false)))))
def m__law_too_early : Fn := ⟨[], runDef [] 11 b__law_too_early⟩
theorem ok__law_too_early (t : Txt K mg T) {fd : FuncData} (D : DefT K mg T "_law_too_early" "_law_too_early" "_law_too_early" s__law_too_early ["rows", "readings", "clock", "source", "gauge", "time", "other"] fd) : FnOk P w K mg base (L2.CX P w) 3 (T.fn "_law_too_early") fd ["rows", "readings", "clock", "source", "gauge", "time", "other"] (spF T 7 m__law_too_early) := by
  obtain ⟨fd__law_waves, D__law_waves⟩ := t.f__law_waves
  have G__law_waves := ok__law_waves (P := P) (w := w) (base := base) t D__law_waves
  refine Fun.def2 (k := 2) (n := 11) (np := 7) T [] b__law_too_early D.fn sc__law_too_early rfl rfl (by decide) (by decide) fun cdv A outer s H E hr => ?_
  have tk := takes_of (X := cxOf (L2.CX P w) P w K mg base ["rows", "readings", "clock", "source", "gauge", "time", "other", "times", "place", "seen", "due"] "_law_too_early" (defScope s__law_too_early) (T.fn "_law_too_early") cdv A outer s H E) rfl rfl rfl rfl
  exact (PXSs.cons (PXS.setO 7 (PXO.call G__law_waves (hr.mono (by omega)) D__law_waves.gl D__law_waves.kp D__law_waves.bi tk (PXA.val (PX.var 0) (PXA.val (PXO.fz (PXO.dct1 hr.u64 (PX.var 3) PX.int)) PXA.nil))) sc__law_too_early.nd)
    (PXSs.cons (PXS.forS (passes_of rfl) rfl (PXI.any t.scr (PX.var 1)) (PXG.tup (n := 2) rfl (PXGs.cons (PXG.nm 8 sc__law_too_early.nd) (PXGs.cons (PXG.nm 9 sc__law_too_early.nd) PXGs.nil)) rfl rfl tu2) (PXSs.one (PXS.ifS (PXW.t (PXW.and (PXT.cmp (op_dEq hr.u64) (PX.var 8) (PXB.var 6) (nomark _)) (PXW.and (PXT.cmp (op_dIn hr.u65) (PX.var 8) (PXB.var 7) rfl) (PXW.and1 (PXT.cmp (op_dIn hr.u65) (PX.var 4) (PXB.var 7) rfl))))) (PXSs.cons (PXS.set 10 (PX.var 9) sc__law_too_early.nd)
    (PXSs.cons (PXS.ifS (PXT.cmp op_dIsN (PX.var 9) (PX.b PX.non) (nomark _)) (PXSs.one (PXS.set 10 (PX.op op_aAdd (PX.var 2) (PX.b PX.int)) sc__law_too_early.nd)) PXSs.nil)
    (PXSs.one (PXS.ret (PX.cmp (op_aLt hr.u0) (PX.op op_aAdd (PX.var 5) (PX.b (PX.ixV 7 t.scr hr.u1 (PX.var 6)))) (PX.b (PX.op op_aAdd (PX.var 10) (PX.b (PX.ixV 7 t.scr hr.u1 (PX.var 4))))) (nomark _)))))) PXSs.nil)))
    (PXSs.one (PXS.ret PX.bl))))
/-! _law_is_reason: slots 0 rows, 1 readings, 2 clock, 3 source, 4 gauge, 5 time, 6 reason, 7 times; own False -/
theorem sc__law_is_reason : FnScope ["rows", "readings", "clock", "source", "gauge", "time", "reason", "times"] ["rows", "readings", "clock", "source", "gauge", "time", "reason"] (defScope s__law_is_reason) := ⟨rfl, rfl, rfl, by decide +kernel, rfl, by decide +kernel, by decide +kernel⟩
def b__law_is_reason : M Fl := (sSeq (sSetO 7 (mCallO 2 m__law_waves (aVal (eVar 0) (aVal (eDct1 (eVar 3) (eC (.int 0))) aNil))))
    (sSeq (sIf (tVal (eOp dEq (eVar 6) (eTup (aVal (eC (.str "far")) aNil)))) (sRet (eOp dNotIn (eVar 4) (bVar 7))) sNil)
    (sSeq (sIf (tVal (eOp dEq (eVar 6) (eTup (aVal (eC (.str "start")) aNil)))) (sRet (eAnd (eOp dIn (eVar 4) (bVar 7)) (eOp aLt (eVar 5) (eIxV 7 (eVar 4))))) sNil)
    (sSeq (sIf (tOr' (tNot' (tTru (eB1 (isiD "tuple") (bVar 6)))) (tOr' (tVal (eOp dNe (eB1 lenD (bVar 6)) (eC (.int 2)))) (tVal (eOp dNe (eIxV 6 (eC (.int 0))) (eC (.str "reading")))))) (sRet (eC (.bl false))) sNil)
    (sRet (mCall 7 m__law_too_early (aVal (eVar 0) (aVal (eVar 1) (aVal (eVar 2) (aVal (eVar 3) (aVal (eVar 4) (aVal (eVar 5) (aVal (eIxV 6 (eC (.int 1))) aNil)))))))))))))
def m__law_is_reason : Fn := ⟨[], runDef [] 8 b__law_is_reason⟩
theorem ok__law_is_reason (t : Txt K mg T) {fd : FuncData} (D : DefT K mg T "_law_is_reason" "_law_is_reason" "_law_is_reason" s__law_is_reason ["rows", "readings", "clock", "source", "gauge", "time", "reason"] fd) : FnOk P w K mg base (L2.CX P w) 4 (T.fn "_law_is_reason") fd ["rows", "readings", "clock", "source", "gauge", "time", "reason"] (spF T 7 m__law_is_reason) := by
  obtain ⟨fd__law_too_early, D__law_too_early⟩ := t.f__law_too_early
  have G__law_too_early := ok__law_too_early (P := P) (w := w) (base := base) t D__law_too_early
  obtain ⟨fd__law_waves, D__law_waves⟩ := t.f__law_waves
  have G__law_waves := ok__law_waves (P := P) (w := w) (base := base) t D__law_waves
  refine Fun.def2 (k := 3) (n := 8) (np := 7) T [] b__law_is_reason D.fn sc__law_is_reason rfl rfl (by decide) (by decide) fun cdv A outer s H E hr => ?_
  have tk := takes_of (X := cxOf (L2.CX P w) P w K mg base ["rows", "readings", "clock", "source", "gauge", "time", "reason", "times"] "_law_is_reason" (defScope s__law_is_reason) (T.fn "_law_is_reason") cdv A outer s H E) rfl rfl rfl rfl
  exact (PXSs.cons (PXS.setO 7 (PXO.call G__law_waves (hr.mono (by omega)) D__law_waves.gl D__law_waves.kp D__law_waves.bi tk (PXA.val (PX.var 0) (PXA.val (PXO.fz (PXO.dct1 hr.u64 (PX.var 3) PX.int)) PXA.nil))) sc__law_is_reason.nd)
    (PXSs.cons (PXS.ifS (PXT.cmp (op_dEq hr.u64) (PX.var 6) (PX.b (PX.tup (PXA.val PX.str PXA.nil))) (nomark _)) (PXSs.one (PXS.ret (PX.cmp (op_dNotIn hr.u65) (PX.var 4) (PXB.var 7) rfl))) PXSs.nil)
    (PXSs.cons (PXS.ifS (PXT.cmp (op_dEq hr.u64) (PX.var 6) (PX.b (PX.tup (PXA.val PX.str PXA.nil))) (nomark _)) (PXSs.one (PXS.ret (PX.and (PX.cmp (op_dIn hr.u65) (PX.var 4) (PXB.var 7) rfl) (PX.one (PX.cmp (op_aLt hr.u0) (PX.var 5) (PX.b (PX.ixV 7 t.scr hr.u1 (PX.var 4))) (nomark _)))))) PXSs.nil)
    (PXSs.cons (PXS.ifS (PXW.t (PXW.or (PXT.not (PXT.tru (PX.b (PX.isT (PXB.var 6) t.n_isinstance t.n_tuple bt_tuple)))) (PXW.or (PXT.cmp (op_dNe hr.u64) (PX.b1 (call_lenD' t.scr) (PXB.var 6) t.n_len bt_len) (PX.b PX.int) (nomark _)) (PXW.or1 (PXT.cmp (op_dNe hr.u64) (PX.ixV 6 t.scr hr.u1 PX.int) (PX.b PX.str) (nomark _)))))) (PXSs.one (PXS.ret PX.bl)) PXSs.nil)
    (PXSs.one (PXS.ret (PX.call G__law_too_early (hr.mono (by omega)) D__law_too_early.gl D__law_too_early.kp D__law_too_early.bi tk (PXA.val (PX.var 0) (PXA.val (PX.var 1) (PXA.val (PX.var 2) (PXA.val (PX.var 3) (PXA.val (PX.var 4) (PXA.val (PX.var 5) (PXA.val (PX.ixV 6 t.scr hr.u1 PX.int) PXA.nil))))))))))))))
/-! _law_is_refuted: slots 0 rows, 1 sources, 2 readings, 3 clock, 4 gauge, 5 reasons, 6 times, 7 at; own False -/
theorem sc__law_is_refuted : FnScope ["rows", "sources", "readings", "clock", "gauge", "reasons", "times", "at"] ["rows", "sources", "readings", "clock", "gauge", "reasons"] (defScope s__law_is_refuted) := ⟨rfl, rfl, rfl, by decide +kernel, rfl, by decide +kernel, by decide +kernel⟩
def p1__law_is_refuted : M Fl := (sIf (tNot' (tTru (mCall 7 m__law_is_reason (aVal (eVar 0) (aVal (eVar 2) (aVal (eVar 3) (aVal (eIxV 1 (eVar 7)) (aVal (eVar 4) (aVal (eIxV 6 (eVar 4)) (aVal (eIxV 5 (eVar 7)) aNil)))))))))) (sRet (eC (.bl false))) sNil)
def b__law_is_refuted : M Fl := (sSeq (sSetO 6 (eB1 dictA (bVar 2)))
    (sSeq (sIf (tOr' (tVal (eOp dNotIn (eVar 4) (bVar 6))) (tOr' (tVal (eOp dIsN (eIxV 6 (eVar 4)) (eC .non))) (tOr' (tNot' (tTru (eB1 (isiD "tuple") (bVar 5)))) (tVal (eOp dNe (eB1 lenD (bVar 5)) (eB1 lenD (bVar 1))))))) (sRet (eC (.bl false))) sNil)
    (sSeq (sFor (gNm 7) (iR1 (eB1 lenD (bVar 1))) p1__law_is_refuted)
    (sRet (eC (.bl true))))))
def m__law_is_refuted : Fn := ⟨[], runDef [] 8 b__law_is_refuted⟩
theorem ok__law_is_refuted (t : Txt K mg T) {fd : FuncData} (D : DefT K mg T "_law_is_refuted" "_law_is_refuted" "_law_is_refuted" s__law_is_refuted ["rows", "sources", "readings", "clock", "gauge", "reasons"] fd) : FnOk P w K mg base (L2.CX P w) 5 (T.fn "_law_is_refuted") fd ["rows", "sources", "readings", "clock", "gauge", "reasons"] (spF T 6 m__law_is_refuted) := by
  obtain ⟨fd__law_is_reason, D__law_is_reason⟩ := t.f__law_is_reason
  have G__law_is_reason := ok__law_is_reason (P := P) (w := w) (base := base) t D__law_is_reason
  refine Fun.def2 (k := 4) (n := 8) (np := 6) T [] b__law_is_refuted D.fn sc__law_is_refuted rfl rfl (by decide) (by decide) fun cdv A outer s H E hr => ?_
  have tk := takes_of (X := cxOf (L2.CX P w) P w K mg base ["rows", "sources", "readings", "clock", "gauge", "reasons", "times", "at"] "_law_is_refuted" (defScope s__law_is_refuted) (T.fn "_law_is_refuted") cdv A outer s H E) rfl rfl rfl rfl
  exact (PXSs.cons (PXS.setO 6 (PXO.y1 (call_dictA rfl (u4_of hr.u64)) (PXB.var 2) t.n_dict bt_dict) sc__law_is_refuted.nd)
    (PXSs.cons (PXS.ifS (PXW.t (PXW.or (PXT.cmp (op_dNotIn hr.u65) (PX.var 4) (PXB.var 6) rfl) (PXW.or (PXT.cmp op_dIsN (PX.ixV 6 t.scr hr.u1 (PX.var 4)) (PX.b PX.non) (nomark _)) (PXW.or (PXT.not (PXT.tru (PX.b (PX.isT (PXB.var 5) t.n_isinstance t.n_tuple bt_tuple)))) (PXW.or1 (PXT.cmp (op_dNe hr.u64) (PX.b1 (call_lenD' t.scr) (PXB.var 5) t.n_len bt_len) (PX.b (PX.b1 (call_lenD' t.scr) (PXB.var 1) t.n_len bt_len)) (nomark _))))))) (PXSs.one (PXS.ret PX.bl)) PXSs.nil)
    (PXSs.cons (PXS.forS (passes_of rfl) rfl (PXI.r1 (PX.b1 (call_lenD' t.scr) (PXB.var 1) t.n_len bt_len) t.n_range) (PXG.nm 7 sc__law_is_refuted.nd) (PXSs.one (PXS.ifS (PXT.not (PXT.tru (PX.b (PX.call G__law_is_reason (hr.mono (by omega)) D__law_is_reason.gl D__law_is_reason.kp D__law_is_reason.bi tk (PXA.val (PX.var 0) (PXA.val (PX.var 2) (PXA.val (PX.var 3) (PXA.val (PX.ixV 1 t.scr hr.u1 (PX.var 7)) (PXA.val (PX.var 4) (PXA.val (PX.ixV 6 t.scr hr.u1 (PX.var 4)) (PXA.val (PX.ixV 5 t.scr hr.u1 (PX.var 7)) PXA.nil))))))))))) (PXSs.one (PXS.ret PX.bl)) PXSs.nil)))
    (PXSs.one (PXS.ret PX.bl)))))
/-! _law_a_reason: slots 0 box, 1 rows, 2 readings, 3 clock, 4 source, 5 gauge, 6 time, 7 cell, 8 reasons, 9 reason, 10 place, 11 seen; own False -/
theorem sc__law_a_reason : FnScope ["box", "rows", "readings", "clock", "source", "gauge", "time", "cell", "reasons", "reason", "place", "seen"] ["box", "rows", "readings", "clock", "source", "gauge", "time"] (defScope s__law_a_reason) := ⟨rfl, rfl, rfl, by decide +kernel, rfl, by decide +kernel, by decide +kernel⟩
def q1__law_a_reason : M D := (eTup (aVal (eC (.str "reading")) (aVal (eVar 10) aNil)))
def p2__law_a_reason : M Fl := (sIf (tTru (mCall 7 m__law_is_reason (aVal (eVar 1) (aVal (eVar 2) (aVal (eVar 3) (aVal (eVar 4) (aVal (eVar 5) (aVal (eVar 6) (aVal (eVar 9) aNil))))))))) (sRetV 9) sNil)
def b__law_a_reason : M Fl := (sSeq (sSet 7 (eTup (aVal (mCall 2 m__law_draw (aSl 0 (aVal (eB1 lenD (bVar 1)) aNil))) (aVal (mCall 2 m__law_draw (aSl 0 (aVal (eB1 lenD (eIxV 1 (eC (.int 0)))) aNil))) aNil))))
    (sSeq (sSet 8 (eOp aAdd (eLst (aVal (eTup (aVal (eC (.str "far")) aNil)) (aVal (eTup (aVal (eC (.str "start")) aNil)) (aVal (eTup (aVal (eC (.str "reading")) (aVal (eVar 7) aNil))) aNil)))) (eLc (gTu (gNs (gNm 10) (gNs (gNm 11) gN0))) (iAny (eVar 2)) tYs q1__law_a_reason [10, 11])))
    (sSeq (sIf (tVal (eOp iGt (mCall 2 m__law_draw (aSl 0 (aVal (eC (.int 3)) aNil))) (eC (.int 0)))) (sFor (gNm 9) (iAny (eVar 8)) p2__law_a_reason) sNil)
    (sRet (eIxV 8 (mCall 2 m__law_draw (aSl 0 (aVal (eB1 lenD (bVar 8)) aNil))))))))
def m__law_a_reason : Fn := ⟨[0], runDef [0] 12 b__law_a_reason⟩
theorem ok__law_a_reason (t : Txt K mg T) {fd : FuncData} (D : DefT K mg T "_law_a_reason" "_law_a_reason" "_law_a_reason" s__law_a_reason ["box", "rows", "readings", "clock", "source", "gauge", "time"] fd) : FnOk P w K mg base (L2.CX P w) 5 (T.fn "_law_a_reason") fd ["box", "rows", "readings", "clock", "source", "gauge", "time"] (spF T 7 m__law_a_reason) := by
  obtain ⟨fd__law_draw, D__law_draw⟩ := t.f__law_draw
  have G__law_draw := ok__law_draw (P := P) (w := w) (base := base) t D__law_draw
  obtain ⟨fd__law_is_reason, D__law_is_reason⟩ := t.f__law_is_reason
  have G__law_is_reason := ok__law_is_reason (P := P) (w := w) (base := base) t D__law_is_reason
  refine Fun.def2 (k := 4) (n := 12) (np := 7) T [0] b__law_a_reason D.fn sc__law_a_reason rfl rfl (by decide) (by decide) fun cdv A outer s H E hr => ?_
  have tk := takes_of (X := cxOf (L2.CX P w) P w K mg base ["box", "rows", "readings", "clock", "source", "gauge", "time", "cell", "reasons", "reason", "place", "seen"] "_law_a_reason" (defScope s__law_a_reason) (T.fn "_law_a_reason") cdv A outer s H E) rfl rfl rfl rfl
  exact (PXSs.cons (PXS.set 7 (PX.tup (PXA.val (PX.call G__law_draw (hr.mono (by omega)) D__law_draw.gl D__law_draw.kp D__law_draw.bi tk (PXA.sl 0 (PXA.val (PX.b1 (call_lenD' t.scr) (PXB.var 1) t.n_len bt_len) PXA.nil))) (PXA.val (PX.call G__law_draw (hr.mono (by omega)) D__law_draw.gl D__law_draw.kp D__law_draw.bi tk (PXA.sl 0 (PXA.val (PX.b1 (call_lenD' t.scr) (PX.b (PX.ixV 1 t.scr hr.u1 PX.int)) t.n_len bt_len) PXA.nil))) PXA.nil))) sc__law_a_reason.nd)
    (PXSs.cons (PXS.set 8 (PX.op op_aAdd (PXO.fz (PXO.lst (PXA.val (PX.tup (PXA.val PX.str PXA.nil)) (PXA.val (PX.tup (PXA.val PX.str PXA.nil)) (PXA.val (PX.tup (PXA.val PX.str (PXA.val (PX.var 7) PXA.nil))) PXA.nil))))) (PXO.b (PXO.lc [("place", 10), ("seen", 11)] rfl sc__law_a_reason.nd (PXI.any t.scr (PX.var 2)) (by kernel_rfl) (fun _ _ _ _ _ => (PXC.tup (n := 2) rfl (PXCs.cons (PXC.nm 10 (by decide) sc__law_a_reason.nd) (PXCs.cons (PXC.nm 11 (by decide) sc__law_a_reason.nd) PXCs.nil)) rfl rfl tu2)) (fun _ _ _ _ _ => PXTs.nil) (fun _ _ _ _ _ => (PX.tup (PXA.val PX.str (PXA.val (PX.var 10) PXA.nil))))))) sc__law_a_reason.nd)
    (PXSs.cons (PXS.ifS (PXT.cmp op_iGt (PX.call G__law_draw (hr.mono (by omega)) D__law_draw.gl D__law_draw.kp D__law_draw.bi tk (PXA.sl 0 (PXA.val PX.int PXA.nil))) (PX.b PX.int) (nomark _)) (PXSs.one (PXS.forS (passes_of rfl) rfl (PXI.any t.scr (PX.var 8)) (PXG.nm 9 sc__law_a_reason.nd) (PXSs.one (PXS.ifS (PXT.tru (PX.b (PX.call G__law_is_reason (hr.mono (by omega)) D__law_is_reason.gl D__law_is_reason.kp D__law_is_reason.bi tk (PXA.val (PX.var 1) (PXA.val (PX.var 2) (PXA.val (PX.var 3) (PXA.val (PX.var 4) (PXA.val (PX.var 5) (PXA.val (PX.var 6) (PXA.val (PX.var 9) PXA.nil)))))))))) (PXSs.one (PXS.retV 9)) PXSs.nil)))) PXSs.nil)
    (PXSs.one (PXS.ret (PX.ixV 8 t.scr hr.u1 (PX.call G__law_draw (hr.mono (by omega)) D__law_draw.gl D__law_draw.kp D__law_draw.bi tk (PXA.sl 0 (PXA.val (PX.b1 (call_lenD' t.scr) (PXB.var 8) t.n_len bt_len) PXA.nil)))))))))
/-! law: slots 0 script, 1 rows, 2 sources, 3 event, 4 readings, 5 clock, 6 chart, 7 box, 8 k, 9 told, 10 gauge, 11 time, 12 reasons, 13 length, 14 due, 15 source; own False -/
theorem sc_law : FnScope ["script", "rows", "sources", "event", "readings", "clock", "chart", "box", "k", "told", "gauge", "time", "reasons", "length", "due", "source"] ["script"] (defScope s_law) := ⟨rfl, rfl, rfl, by decide +kernel, rfl, by decide +kernel, by decide +kernel⟩
def q1_law : M D := (mCall 7 m__law_a_reason (aSl 7 (aVal (eVar 1) (aVal (eVar 9) (aVal (eVar 5) (aVal (eVar 15) (aVal (eVar 10) (aVal (eVar 11) aNil))))))))
def p2_law : M Fl := (sSeq (sSet 9 (mCall 3 m__law_bent (aSl 7 (aVal (eVar 4) (aVal (eVar 5) aNil)))))
    (sSeq (sSet 10 (eIx (mCallO 2 m__law_places (aVal (eVar 1) (aVal (eC (.str "123456789")) aNil))) (eC (.int 0))))
    (sSeq (sIf (tAnd' (tVal (eOp iGt (eB1 lenD (bVar 9)) (eC (.int 0)))) (tVal (eOp iGt (mCall 2 m__law_draw (aSl 7 (aVal (eC (.int 5)) aNil))) (eC (.int 0))))) (sSet 10 (eIx (eIxV 9 (mCall 2 m__law_draw (aSl 7 (aVal (eB1 lenD (bVar 9)) aNil)))) (eC (.int 0)))) sNil)
    (sSeq (sSet 11 (eGet (eB1 dictA (bVar 9)) (eVar 10) (eC .non)))
    (sSeq (sIf (tVal (eOp dIsN (eVar 11) (eC .non))) (sSet 11 (eVar 5)) sNil)
    (sSeq (sSetO 12 (eLc (gNm 15) (iAny (eVar 2)) tYs q1_law [15]))
    (sSeq (sSet 13 (mCall 2 m__law_draw (aSl 7 (aVal (eC (.int 8)) aNil))))
    (sSeq (sIf (tVal (eOp dEq (eVar 13) (eC (.int 0)))) (sSet 12 (eSl (eVar 12) (pAt (eC (.int 1))) pNo)) sNil)
    (sSeq (sIf (tVal (eOp dEq (eVar 13) (eC (.int 1)))) (sSet 12 (eOp aAdd (eVar 12) (eSl (eVar 12) pNo (pAt (eC (.int 1)))))) sNil)
    (sSeq (sSet 12 (eB1 tupleD (bVar 12)))
    (sSeq (sSet 14 (mCall 6 m__law_is_refuted (aVal (eVar 1) (aVal (eVar 2) (aVal (eVar 9) (aVal (eVar 5) (aVal (eVar 10) (aVal (eVar 12) aNil))))))))
    (sIf (tNot' (tTru (mCall 2 m__law_same (aVal (mCall 5 m_is_refutation (aVal (eVar 6) (aVal (eVar 9) (aVal (eVar 5) (aVal (eVar 10) (aVal (eVar 12) aNil)))))) (aVal (eVar 14) aNil))))) (sRet (eC (.bl false))) sNil))))))))))))
def b_law : M Fl := (sSeq (sUnp (gTu (gNs (gNm 1) (gNs (gNm 2) (gNs (gNm 3) (gNs (gNm 4) (gNs (gNm 5) gN0)))))) (mCall 2 m__law_story (aVal (eVar 0) (aVal (eC (.int 5)) aNil))))
    (sSeq (sSetO 6 (mMake 3 "Chart" m_Chart_init (aVal (eVar 1) (aVal (eVar 2) aNil))))
    (sSeq (sSetO 7 (mCallO 2 m__law_box (aVal (eVar 0) (aVal (eC (.int 11)) aNil))))
    (sSeq (sFor (gNm 8) (iR1 (eC (.int 3))) p2_law)
    (sRet (eC (.bl true)))))))
def m_law : Fn := ⟨[], runDef [] 16 b_law⟩
theorem ok_law (t : Txt K mg T) {fd : FuncData} (D : DefT K mg T "law" "law" "law" s_law ["script"] fd) : FnOk P w K mg base (L2.CX P w) 10 (T.fn "law") fd ["script"] (spF T 1 m_law) := by
  obtain ⟨fd_Chart_init, D_Chart_init⟩ := t.f_Chart_init
  have G_Chart_init := ok_Chart_init (P := P) (w := w) (base := base) t D_Chart_init
  obtain ⟨fd__law_a_reason, D__law_a_reason⟩ := t.f__law_a_reason
  have G__law_a_reason := ok__law_a_reason (P := P) (w := w) (base := base) t D__law_a_reason
  obtain ⟨fd__law_bent, D__law_bent⟩ := t.f__law_bent
  have G__law_bent := ok__law_bent (P := P) (w := w) (base := base) t D__law_bent
  obtain ⟨fd__law_box, D__law_box⟩ := t.f__law_box
  have G__law_box := ok__law_box (P := P) (w := w) (base := base) t D__law_box
  obtain ⟨fd__law_draw, D__law_draw⟩ := t.f__law_draw
  have G__law_draw := ok__law_draw (P := P) (w := w) (base := base) t D__law_draw
  obtain ⟨fd__law_is_refuted, D__law_is_refuted⟩ := t.f__law_is_refuted
  have G__law_is_refuted := ok__law_is_refuted (P := P) (w := w) (base := base) t D__law_is_refuted
  obtain ⟨fd__law_places, D__law_places⟩ := t.f__law_places
  have G__law_places := ok__law_places (P := P) (w := w) (base := base) t D__law_places
  obtain ⟨fd__law_same, D__law_same⟩ := t.f__law_same
  have G__law_same := ok__law_same (P := P) (w := w) (base := base) t D__law_same
  obtain ⟨fd__law_story, D__law_story⟩ := t.f__law_story
  have G__law_story := ok__law_story (P := P) (w := w) (base := base) t D__law_story
  obtain ⟨fd_is_refutation, D_is_refutation⟩ := t.f_is_refutation
  have G_is_refutation := ok_is_refutation (P := P) (w := w) (base := base) t D_is_refutation
  refine Fun.def2 (k := 9) (n := 16) (np := 1) T [] b_law D.fn sc_law rfl rfl (by decide) (by decide) fun cdv A outer s H E hr => ?_
  have tk := takes_of (X := cxOf (L2.CX P w) P w K mg base ["script", "rows", "sources", "event", "readings", "clock", "chart", "box", "k", "told", "gauge", "time", "reasons", "length", "due", "source"] "law" (defScope s_law) (T.fn "law") cdv A outer s H E) rfl rfl rfl rfl
  exact (PXSs.cons (PXS.unp (PX.call G__law_story (hr.mono (by omega)) D__law_story.gl D__law_story.kp D__law_story.bi tk (PXA.val (PX.var 0) (PXA.val PX.int PXA.nil))) (PXG.tup (n := 5) rfl (PXGs.cons (PXG.nm 1 sc_law.nd) (PXGs.cons (PXG.nm 2 sc_law.nd) (PXGs.cons (PXG.nm 3 sc_law.nd) (PXGs.cons (PXG.nm 4 sc_law.nd) (PXGs.cons (PXG.nm 5 sc_law.nd) PXGs.nil))))) rfl rfl tu5))
    (PXSs.cons (PXS.setO 6 (PXO.make t.k_Chart G_Chart_init (hr.mono (by omega)) t.c_Chart D_Chart_init.bi tk (PXA.val (PX.var 1) (PXA.val (PX.var 2) PXA.nil))) sc_law.nd)
    (PXSs.cons (PXS.setO 7 (PXO.call G__law_box (hr.mono (by omega)) D__law_box.gl D__law_box.kp D__law_box.bi tk (PXA.val (PX.var 0) (PXA.val PX.int PXA.nil))) sc_law.nd)
    (PXSs.cons (PXS.forS (passes_of rfl) rfl (PXI.r1 PX.int t.n_range) (PXG.nm 8 sc_law.nd) (PXSs.cons (PXS.set 9 (PX.call G__law_bent (hr.mono (by omega)) D__law_bent.gl D__law_bent.kp D__law_bent.bi tk (PXA.sl 7 (PXA.val (PX.var 4) (PXA.val (PX.var 5) PXA.nil)))) sc_law.nd)
    (PXSs.cons (PXS.set 10 (PX.ix t.scr hr.u1 (PXO.fz (PXO.call G__law_places (hr.mono (by omega)) D__law_places.gl D__law_places.kp D__law_places.bi tk (PXA.val (PX.var 1) (PXA.val PX.str PXA.nil)))) PX.int) sc_law.nd)
    (PXSs.cons (PXS.ifS (PXW.t (PXW.and (PXT.cmp op_iGt (PX.b1 (call_lenD' t.scr) (PXB.var 9) t.n_len bt_len) (PX.b PX.int) (nomark _)) (PXW.and1 (PXT.cmp op_iGt (PX.call G__law_draw (hr.mono (by omega)) D__law_draw.gl D__law_draw.kp D__law_draw.bi tk (PXA.sl 7 (PXA.val PX.int PXA.nil))) (PX.b PX.int) (nomark _))))) (PXSs.one (PXS.set 10 (PX.ix t.scr hr.u1 (PX.ixV 9 t.scr hr.u1 (PX.call G__law_draw (hr.mono (by omega)) D__law_draw.gl D__law_draw.kp D__law_draw.bi tk (PXA.sl 7 (PXA.val (PX.b1 (call_lenD' t.scr) (PXB.var 9) t.n_len bt_len) PXA.nil)))) PX.int) sc_law.nd)) PXSs.nil)
    (PXSs.cons (PXS.set 11 (PX.get1 hr.u64 (PXO.fz (PXO.y1 (call_dictA rfl (u4_of hr.u64)) (PXB.var 9) t.n_dict bt_dict)) (PX.var 10) ) sc_law.nd)
    (PXSs.cons (PXS.ifS (PXT.cmp op_dIsN (PX.var 11) (PX.b PX.non) (nomark _)) (PXSs.one (PXS.set 11 (PX.var 5) sc_law.nd)) PXSs.nil)
    (PXSs.cons (PXS.setLc 12 [("source", 15)] rfl sc_law.nd (PXI.any t.scr (PX.var 2)) (by kernel_rfl) (fun _ _ _ _ _ => (PXC.nm 15 (by decide) sc_law.nd)) (fun _ _ _ _ _ => PXTs.nil) (fun _ _ _ _ _ => (PX.call G__law_a_reason (hr.mono (by omega)) D__law_a_reason.gl D__law_a_reason.kp D__law_a_reason.bi takes0 (PXA.sl 7 (PXA.val (PX.var 1) (PXA.val (PX.var 9) (PXA.val (PX.var 5) (PXA.val (PX.var 15) (PXA.val (PX.var 10) (PXA.val (PX.var 11) PXA.nil))))))))) rfl)
    (PXSs.cons (PXS.set 13 (PX.call G__law_draw (hr.mono (by omega)) D__law_draw.gl D__law_draw.kp D__law_draw.bi tk (PXA.sl 7 (PXA.val PX.int PXA.nil))) sc_law.nd)
    (PXSs.cons (PXS.ifS (PXT.cmp (op_dEq hr.u64) (PX.var 13) (PX.b PX.int) (nomark _)) (PXSs.one (PXS.set 12 (PX.sl (PX.var 12) (PXP.at PX.int) PXP.no) sc_law.nd)) PXSs.nil)
    (PXSs.cons (PXS.ifS (PXT.cmp (op_dEq hr.u64) (PX.var 13) (PX.b PX.int) (nomark _)) (PXSs.one (PXS.set 12 (PX.op op_aAdd (PX.var 12) (PX.b (PX.sl (PX.var 12) PXP.no (PXP.at PX.int)))) sc_law.nd)) PXSs.nil)
    (PXSs.cons (PXS.set 12 (PX.y1 call_tupleD (PXB.var 12) t.n_tuple bt_tuple) sc_law.nd)
    (PXSs.cons (PXS.set 14 (PX.call G__law_is_refuted (hr.mono (by omega)) D__law_is_refuted.gl D__law_is_refuted.kp D__law_is_refuted.bi tk (PXA.val (PX.var 1) (PXA.val (PX.var 2) (PXA.val (PX.var 9) (PXA.val (PX.var 5) (PXA.val (PX.var 10) (PXA.val (PX.var 12) PXA.nil))))))) sc_law.nd)
    (PXSs.one (PXS.ifS (PXT.not (PXT.tru (PX.b (PX.call G__law_same (hr.mono (by omega)) D__law_same.gl D__law_same.kp D__law_same.bi tk (PXA.val (PX.call G_is_refutation (hr.mono (by omega)) D_is_refutation.gl D_is_refutation.kp D_is_refutation.bi tk (PXA.val (PX.var 6) (PXA.val (PX.var 9) (PXA.val (PX.var 5) (PXA.val (PX.var 10) (PXA.val (PX.var 12) PXA.nil)))))) (PXA.val (PX.var 14) PXA.nil)))))) (PXSs.one (PXS.ret PX.bl)) PXSs.nil))))))))))))))
    (PXSs.one (PXS.ret PX.bl))))))
end
theorem all_mk {K : PySem.W.Frag} {h : Heap} {mg : Str → Option Value} (X : K.In h) (G : h.Ns mainGlobals mg)
    {C_ShoreError C_BadChart C_Chart a_has_signs_only a_are_rows a_is_ascending a_is_inside a_has_sign a_are_sources a_Chart_init a_is_water a_beside a_water_beside a_crossing_minutes a_step_minutes a_reached_times a_least_arrival a_comes_too_soon a_is_right a_is_refutation a__law_is_integer a__law_same a__law_cell a__law_digits a__law_box a__law_draw a__law_near a__law_places a__law_minutes a__law_chart a__law_waves a__law_event a__law_gauges a__law_seen a__law_story a__law_bent a__law_too_early a__law_is_reason a__law_is_refuted a__law_a_reason a_law : Addr}
    {od_has_signs_only an_has_signs_only : Option Addr} {sl_has_signs_only : Array (Option Value)} {oc_has_signs_only kV_has_signs_only dc_has_signs_only pm_has_signs_only cd_has_signs_only ct_has_signs_only : Value} {od_are_rows an_are_rows : Option Addr} {sl_are_rows : Array (Option Value)} {oc_are_rows kV_are_rows dc_are_rows pm_are_rows cd_are_rows ct_are_rows : Value} {od_is_ascending an_is_ascending : Option Addr} {sl_is_ascending : Array (Option Value)} {oc_is_ascending kV_is_ascending dc_is_ascending pm_is_ascending cd_is_ascending ct_is_ascending : Value} {od_is_inside an_is_inside : Option Addr} {sl_is_inside : Array (Option Value)} {oc_is_inside kV_is_inside dc_is_inside pm_is_inside cd_is_inside ct_is_inside : Value} {od_has_sign an_has_sign : Option Addr} {sl_has_sign : Array (Option Value)} {oc_has_sign kV_has_sign dc_has_sign pm_has_sign cd_has_sign ct_has_sign : Value} {od_are_sources an_are_sources : Option Addr} {sl_are_sources : Array (Option Value)} {oc_are_sources kV_are_sources dc_are_sources pm_are_sources cd_are_sources ct_are_sources : Value} {od_Chart_init an_Chart_init : Option Addr} {sl_Chart_init : Array (Option Value)} {oc_Chart_init kV_Chart_init dc_Chart_init pm_Chart_init cd_Chart_init ct_Chart_init : Value} {od_is_water an_is_water : Option Addr} {sl_is_water : Array (Option Value)} {oc_is_water kV_is_water dc_is_water pm_is_water cd_is_water ct_is_water : Value} {od_beside an_beside : Option Addr} {sl_beside : Array (Option Value)} {oc_beside kV_beside dc_beside pm_beside cd_beside ct_beside : Value} {od_water_beside an_water_beside : Option Addr} {sl_water_beside : Array (Option Value)} {oc_water_beside kV_water_beside dc_water_beside pm_water_beside cd_water_beside ct_water_beside : Value} {od_crossing_minutes an_crossing_minutes : Option Addr} {sl_crossing_minutes : Array (Option Value)} {oc_crossing_minutes kV_crossing_minutes dc_crossing_minutes pm_crossing_minutes cd_crossing_minutes ct_crossing_minutes : Value} {od_step_minutes an_step_minutes : Option Addr} {sl_step_minutes : Array (Option Value)} {oc_step_minutes kV_step_minutes dc_step_minutes pm_step_minutes cd_step_minutes ct_step_minutes : Value} {od_reached_times an_reached_times : Option Addr} {sl_reached_times : Array (Option Value)} {oc_reached_times kV_reached_times dc_reached_times pm_reached_times cd_reached_times ct_reached_times : Value} {od_least_arrival an_least_arrival : Option Addr} {sl_least_arrival : Array (Option Value)} {oc_least_arrival kV_least_arrival dc_least_arrival pm_least_arrival cd_least_arrival ct_least_arrival : Value} {od_comes_too_soon an_comes_too_soon : Option Addr} {sl_comes_too_soon : Array (Option Value)} {oc_comes_too_soon kV_comes_too_soon dc_comes_too_soon pm_comes_too_soon cd_comes_too_soon ct_comes_too_soon : Value} {od_is_right an_is_right : Option Addr} {sl_is_right : Array (Option Value)} {oc_is_right kV_is_right dc_is_right pm_is_right cd_is_right ct_is_right : Value} {od_is_refutation an_is_refutation : Option Addr} {sl_is_refutation : Array (Option Value)} {oc_is_refutation kV_is_refutation dc_is_refutation pm_is_refutation cd_is_refutation ct_is_refutation : Value} {od__law_is_integer an__law_is_integer : Option Addr} {sl__law_is_integer : Array (Option Value)} {oc__law_is_integer kV__law_is_integer dc__law_is_integer pm__law_is_integer cd__law_is_integer ct__law_is_integer : Value} {od__law_same an__law_same : Option Addr} {sl__law_same : Array (Option Value)} {oc__law_same kV__law_same dc__law_same pm__law_same cd__law_same ct__law_same : Value} {od__law_cell an__law_cell : Option Addr} {sl__law_cell : Array (Option Value)} {oc__law_cell kV__law_cell dc__law_cell pm__law_cell cd__law_cell ct__law_cell : Value} {od__law_digits an__law_digits : Option Addr} {sl__law_digits : Array (Option Value)} {oc__law_digits kV__law_digits dc__law_digits pm__law_digits cd__law_digits ct__law_digits : Value} {od__law_box an__law_box : Option Addr} {sl__law_box : Array (Option Value)} {oc__law_box kV__law_box dc__law_box pm__law_box cd__law_box ct__law_box : Value} {od__law_draw an__law_draw : Option Addr} {sl__law_draw : Array (Option Value)} {oc__law_draw kV__law_draw dc__law_draw pm__law_draw cd__law_draw ct__law_draw : Value} {od__law_near an__law_near : Option Addr} {sl__law_near : Array (Option Value)} {oc__law_near kV__law_near dc__law_near pm__law_near cd__law_near ct__law_near : Value} {od__law_places an__law_places : Option Addr} {sl__law_places : Array (Option Value)} {oc__law_places kV__law_places dc__law_places pm__law_places cd__law_places ct__law_places : Value} {od__law_minutes an__law_minutes : Option Addr} {sl__law_minutes : Array (Option Value)} {oc__law_minutes kV__law_minutes dc__law_minutes pm__law_minutes cd__law_minutes ct__law_minutes : Value} {od__law_chart an__law_chart : Option Addr} {sl__law_chart : Array (Option Value)} {oc__law_chart kV__law_chart dc__law_chart pm__law_chart cd__law_chart ct__law_chart : Value} {od__law_waves an__law_waves : Option Addr} {sl__law_waves : Array (Option Value)} {oc__law_waves kV__law_waves dc__law_waves pm__law_waves cd__law_waves ct__law_waves : Value} {od__law_event an__law_event : Option Addr} {sl__law_event : Array (Option Value)} {oc__law_event kV__law_event dc__law_event pm__law_event cd__law_event ct__law_event : Value} {od__law_gauges an__law_gauges : Option Addr} {sl__law_gauges : Array (Option Value)} {oc__law_gauges kV__law_gauges dc__law_gauges pm__law_gauges cd__law_gauges ct__law_gauges : Value} {od__law_seen an__law_seen : Option Addr} {sl__law_seen : Array (Option Value)} {oc__law_seen kV__law_seen dc__law_seen pm__law_seen cd__law_seen ct__law_seen : Value} {od__law_story an__law_story : Option Addr} {sl__law_story : Array (Option Value)} {oc__law_story kV__law_story dc__law_story pm__law_story cd__law_story ct__law_story : Value} {od__law_bent an__law_bent : Option Addr} {sl__law_bent : Array (Option Value)} {oc__law_bent kV__law_bent dc__law_bent pm__law_bent cd__law_bent ct__law_bent : Value} {od__law_too_early an__law_too_early : Option Addr} {sl__law_too_early : Array (Option Value)} {oc__law_too_early kV__law_too_early dc__law_too_early pm__law_too_early cd__law_too_early ct__law_too_early : Value} {od__law_is_reason an__law_is_reason : Option Addr} {sl__law_is_reason : Array (Option Value)} {oc__law_is_reason kV__law_is_reason dc__law_is_reason pm__law_is_reason cd__law_is_reason ct__law_is_reason : Value} {od__law_is_refuted an__law_is_refuted : Option Addr} {sl__law_is_refuted : Array (Option Value)} {oc__law_is_refuted kV__law_is_refuted dc__law_is_refuted pm__law_is_refuted cd__law_is_refuted ct__law_is_refuted : Value} {od__law_a_reason an__law_a_reason : Option Addr} {sl__law_a_reason : Array (Option Value)} {oc__law_a_reason kV__law_a_reason dc__law_a_reason pm__law_a_reason cd__law_a_reason ct__law_a_reason : Value} {od_law an_law : Option Addr} {sl_law : Array (Option Value)} {oc_law kV_law dc_law pm_law cd_law ct_law : Value} {tk_HIGH : Tok} {tk_LAND : Tok} {tk_MOST_SIDE : Tok} {tk_MOST_SOURCES : Tok} {tk_ROCK : Tok} {tk_WATER : Tok}
    (gC_ShoreError : PySem.W.nsIn K mainGlobals "ShoreError" = some (some (.ref C_ShoreError)))
    (gC_BadChart : PySem.W.nsIn K mainGlobals "BadChart" = some (some (.ref C_BadChart)))
    (gC_Chart : PySem.W.nsIn K mainGlobals "Chart" = some (some (.ref C_Chart)))
    (no_Chart_rows : PySem.W.findIn K (.ref C_Chart) "rows" = some none)
    (no_Chart_sources : PySem.W.findIn K (.ref C_Chart) "sources" = some none)
    (pg_Chart : PySem.W.plainGet K C_Chart Str.empty = true)
    (hd_Chart : PySem.W.hasDictIn K C_Chart = true)
    (po_Chart : PySem.W.plainOver K C_Chart = true)
    (sa_Chart : PySem.W.findIn K (.ref C_Chart) "__setattr__" = some (some (.builtin "object.__setattr__")))
    (mk_Chart : PySem.W.makesIn K C_Chart = true)
    (kc_Chart : PySem.W.keepIn K (.ref C_Chart) = true)
    (fa_has_signs_only : PySem.W.nsIn K mainGlobals "has_signs_only" = some (some (.ref a_has_signs_only)))
    (fl_has_signs_only : K.lookup a_has_signs_only = some ⟨oc_has_signs_only, od_has_signs_only, .func (PySem.W.fnOf "has_signs_only" "has_signs_only" (defArgs s_has_signs_only) (defBody s_has_signs_only) (defScope s_has_signs_only) .none kV_has_signs_only dc_has_signs_only pm_has_signs_only an_has_signs_only cd_has_signs_only ct_has_signs_only), sl_has_signs_only⟩)
    (fc_has_signs_only : PySem.W.codeIn K cd_has_signs_only "has_signs_only" = true)
    (fk_has_signs_only : PySem.W.keepIn K (.ref a_has_signs_only) = true)
    (fa_are_rows : PySem.W.nsIn K mainGlobals "are_rows" = some (some (.ref a_are_rows)))
    (fl_are_rows : K.lookup a_are_rows = some ⟨oc_are_rows, od_are_rows, .func (PySem.W.fnOf "are_rows" "are_rows" (defArgs s_are_rows) (defBody s_are_rows) (defScope s_are_rows) .none kV_are_rows dc_are_rows pm_are_rows an_are_rows cd_are_rows ct_are_rows), sl_are_rows⟩)
    (fc_are_rows : PySem.W.codeIn K cd_are_rows "are_rows" = true)
    (fk_are_rows : PySem.W.keepIn K (.ref a_are_rows) = true)
    (fa_is_ascending : PySem.W.nsIn K mainGlobals "is_ascending" = some (some (.ref a_is_ascending)))
    (fl_is_ascending : K.lookup a_is_ascending = some ⟨oc_is_ascending, od_is_ascending, .func (PySem.W.fnOf "is_ascending" "is_ascending" (defArgs s_is_ascending) (defBody s_is_ascending) (defScope s_is_ascending) .none kV_is_ascending dc_is_ascending pm_is_ascending an_is_ascending cd_is_ascending ct_is_ascending), sl_is_ascending⟩)
    (fc_is_ascending : PySem.W.codeIn K cd_is_ascending "is_ascending" = true)
    (fk_is_ascending : PySem.W.keepIn K (.ref a_is_ascending) = true)
    (fa_is_inside : PySem.W.nsIn K mainGlobals "is_inside" = some (some (.ref a_is_inside)))
    (fl_is_inside : K.lookup a_is_inside = some ⟨oc_is_inside, od_is_inside, .func (PySem.W.fnOf "is_inside" "is_inside" (defArgs s_is_inside) (defBody s_is_inside) (defScope s_is_inside) .none kV_is_inside dc_is_inside pm_is_inside an_is_inside cd_is_inside ct_is_inside), sl_is_inside⟩)
    (fc_is_inside : PySem.W.codeIn K cd_is_inside "is_inside" = true)
    (fk_is_inside : PySem.W.keepIn K (.ref a_is_inside) = true)
    (fa_has_sign : PySem.W.nsIn K mainGlobals "has_sign" = some (some (.ref a_has_sign)))
    (fl_has_sign : K.lookup a_has_sign = some ⟨oc_has_sign, od_has_sign, .func (PySem.W.fnOf "has_sign" "has_sign" (defArgs s_has_sign) (defBody s_has_sign) (defScope s_has_sign) .none kV_has_sign dc_has_sign pm_has_sign an_has_sign cd_has_sign ct_has_sign), sl_has_sign⟩)
    (fc_has_sign : PySem.W.codeIn K cd_has_sign "has_sign" = true)
    (fk_has_sign : PySem.W.keepIn K (.ref a_has_sign) = true)
    (fa_are_sources : PySem.W.nsIn K mainGlobals "are_sources" = some (some (.ref a_are_sources)))
    (fl_are_sources : K.lookup a_are_sources = some ⟨oc_are_sources, od_are_sources, .func (PySem.W.fnOf "are_sources" "are_sources" (defArgs s_are_sources) (defBody s_are_sources) (defScope s_are_sources) .none kV_are_sources dc_are_sources pm_are_sources an_are_sources cd_are_sources ct_are_sources), sl_are_sources⟩)
    (fc_are_sources : PySem.W.codeIn K cd_are_sources "are_sources" = true)
    (fk_are_sources : PySem.W.keepIn K (.ref a_are_sources) = true)
    (fa_Chart_init : PySem.W.findIn K (.ref C_Chart) "__init__" = some (some (.ref a_Chart_init)))
    (fi_Chart_init : PySem.W.isFn K (.ref a_Chart_init) = true)
    (fl_Chart_init : K.lookup a_Chart_init = some ⟨oc_Chart_init, od_Chart_init, .func (PySem.W.fnOf "__init__" "Chart.__init__" (defArgs s_Chart_init) (defBody s_Chart_init) (defScope s_Chart_init) .none kV_Chart_init dc_Chart_init pm_Chart_init an_Chart_init cd_Chart_init ct_Chart_init), sl_Chart_init⟩)
    (fc_Chart_init : PySem.W.codeIn K cd_Chart_init "Chart.__init__" = true)
    (fk_Chart_init : PySem.W.keepIn K (.ref a_Chart_init) = true)
    (fa_is_water : PySem.W.nsIn K mainGlobals "is_water" = some (some (.ref a_is_water)))
    (fl_is_water : K.lookup a_is_water = some ⟨oc_is_water, od_is_water, .func (PySem.W.fnOf "is_water" "is_water" (defArgs s_is_water) (defBody s_is_water) (defScope s_is_water) .none kV_is_water dc_is_water pm_is_water an_is_water cd_is_water ct_is_water), sl_is_water⟩)
    (fc_is_water : PySem.W.codeIn K cd_is_water "is_water" = true)
    (fk_is_water : PySem.W.keepIn K (.ref a_is_water) = true)
    (fa_beside : PySem.W.nsIn K mainGlobals "beside" = some (some (.ref a_beside)))
    (fl_beside : K.lookup a_beside = some ⟨oc_beside, od_beside, .func (PySem.W.fnOf "beside" "beside" (defArgs s_beside) (defBody s_beside) (defScope s_beside) .none kV_beside dc_beside pm_beside an_beside cd_beside ct_beside), sl_beside⟩)
    (fc_beside : PySem.W.codeIn K cd_beside "beside" = true)
    (fk_beside : PySem.W.keepIn K (.ref a_beside) = true)
    (fa_water_beside : PySem.W.nsIn K mainGlobals "water_beside" = some (some (.ref a_water_beside)))
    (fl_water_beside : K.lookup a_water_beside = some ⟨oc_water_beside, od_water_beside, .func (PySem.W.fnOf "water_beside" "water_beside" (defArgs s_water_beside) (defBody s_water_beside) (defScope s_water_beside) .none kV_water_beside dc_water_beside pm_water_beside an_water_beside cd_water_beside ct_water_beside), sl_water_beside⟩)
    (fc_water_beside : PySem.W.codeIn K cd_water_beside "water_beside" = true)
    (fk_water_beside : PySem.W.keepIn K (.ref a_water_beside) = true)
    (fa_crossing_minutes : PySem.W.nsIn K mainGlobals "crossing_minutes" = some (some (.ref a_crossing_minutes)))
    (fl_crossing_minutes : K.lookup a_crossing_minutes = some ⟨oc_crossing_minutes, od_crossing_minutes, .func (PySem.W.fnOf "crossing_minutes" "crossing_minutes" (defArgs s_crossing_minutes) (defBody s_crossing_minutes) (defScope s_crossing_minutes) .none kV_crossing_minutes dc_crossing_minutes pm_crossing_minutes an_crossing_minutes cd_crossing_minutes ct_crossing_minutes), sl_crossing_minutes⟩)
    (fc_crossing_minutes : PySem.W.codeIn K cd_crossing_minutes "crossing_minutes" = true)
    (fk_crossing_minutes : PySem.W.keepIn K (.ref a_crossing_minutes) = true)
    (fa_step_minutes : PySem.W.nsIn K mainGlobals "step_minutes" = some (some (.ref a_step_minutes)))
    (fl_step_minutes : K.lookup a_step_minutes = some ⟨oc_step_minutes, od_step_minutes, .func (PySem.W.fnOf "step_minutes" "step_minutes" (defArgs s_step_minutes) (defBody s_step_minutes) (defScope s_step_minutes) .none kV_step_minutes dc_step_minutes pm_step_minutes an_step_minutes cd_step_minutes ct_step_minutes), sl_step_minutes⟩)
    (fc_step_minutes : PySem.W.codeIn K cd_step_minutes "step_minutes" = true)
    (fk_step_minutes : PySem.W.keepIn K (.ref a_step_minutes) = true)
    (fa_reached_times : PySem.W.nsIn K mainGlobals "reached_times" = some (some (.ref a_reached_times)))
    (fl_reached_times : K.lookup a_reached_times = some ⟨oc_reached_times, od_reached_times, .func (PySem.W.fnOf "reached_times" "reached_times" (defArgs s_reached_times) (defBody s_reached_times) (defScope s_reached_times) .none kV_reached_times dc_reached_times pm_reached_times an_reached_times cd_reached_times ct_reached_times), sl_reached_times⟩)
    (fc_reached_times : PySem.W.codeIn K cd_reached_times "reached_times" = true)
    (fk_reached_times : PySem.W.keepIn K (.ref a_reached_times) = true)
    (fa_least_arrival : PySem.W.nsIn K mainGlobals "least_arrival" = some (some (.ref a_least_arrival)))
    (fl_least_arrival : K.lookup a_least_arrival = some ⟨oc_least_arrival, od_least_arrival, .func (PySem.W.fnOf "least_arrival" "least_arrival" (defArgs s_least_arrival) (defBody s_least_arrival) (defScope s_least_arrival) .none kV_least_arrival dc_least_arrival pm_least_arrival an_least_arrival cd_least_arrival ct_least_arrival), sl_least_arrival⟩)
    (fc_least_arrival : PySem.W.codeIn K cd_least_arrival "least_arrival" = true)
    (fk_least_arrival : PySem.W.keepIn K (.ref a_least_arrival) = true)
    (fa_comes_too_soon : PySem.W.nsIn K mainGlobals "comes_too_soon" = some (some (.ref a_comes_too_soon)))
    (fl_comes_too_soon : K.lookup a_comes_too_soon = some ⟨oc_comes_too_soon, od_comes_too_soon, .func (PySem.W.fnOf "comes_too_soon" "comes_too_soon" (defArgs s_comes_too_soon) (defBody s_comes_too_soon) (defScope s_comes_too_soon) .none kV_comes_too_soon dc_comes_too_soon pm_comes_too_soon an_comes_too_soon cd_comes_too_soon ct_comes_too_soon), sl_comes_too_soon⟩)
    (fc_comes_too_soon : PySem.W.codeIn K cd_comes_too_soon "comes_too_soon" = true)
    (fk_comes_too_soon : PySem.W.keepIn K (.ref a_comes_too_soon) = true)
    (fa_is_right : PySem.W.nsIn K mainGlobals "is_right" = some (some (.ref a_is_right)))
    (fl_is_right : K.lookup a_is_right = some ⟨oc_is_right, od_is_right, .func (PySem.W.fnOf "is_right" "is_right" (defArgs s_is_right) (defBody s_is_right) (defScope s_is_right) .none kV_is_right dc_is_right pm_is_right an_is_right cd_is_right ct_is_right), sl_is_right⟩)
    (fc_is_right : PySem.W.codeIn K cd_is_right "is_right" = true)
    (fk_is_right : PySem.W.keepIn K (.ref a_is_right) = true)
    (fa_is_refutation : PySem.W.nsIn K mainGlobals "is_refutation" = some (some (.ref a_is_refutation)))
    (fl_is_refutation : K.lookup a_is_refutation = some ⟨oc_is_refutation, od_is_refutation, .func (PySem.W.fnOf "is_refutation" "is_refutation" (defArgs s_is_refutation) (defBody s_is_refutation) (defScope s_is_refutation) .none kV_is_refutation dc_is_refutation pm_is_refutation an_is_refutation cd_is_refutation ct_is_refutation), sl_is_refutation⟩)
    (fc_is_refutation : PySem.W.codeIn K cd_is_refutation "is_refutation" = true)
    (fk_is_refutation : PySem.W.keepIn K (.ref a_is_refutation) = true)
    (fa__law_is_integer : PySem.W.nsIn K mainGlobals "_law_is_integer" = some (some (.ref a__law_is_integer)))
    (fl__law_is_integer : K.lookup a__law_is_integer = some ⟨oc__law_is_integer, od__law_is_integer, .func (PySem.W.fnOf "_law_is_integer" "_law_is_integer" (defArgs s__law_is_integer) (defBody s__law_is_integer) (defScope s__law_is_integer) .none kV__law_is_integer dc__law_is_integer pm__law_is_integer an__law_is_integer cd__law_is_integer ct__law_is_integer), sl__law_is_integer⟩)
    (fc__law_is_integer : PySem.W.codeIn K cd__law_is_integer "_law_is_integer" = true)
    (fk__law_is_integer : PySem.W.keepIn K (.ref a__law_is_integer) = true)
    (fa__law_same : PySem.W.nsIn K mainGlobals "_law_same" = some (some (.ref a__law_same)))
    (fl__law_same : K.lookup a__law_same = some ⟨oc__law_same, od__law_same, .func (PySem.W.fnOf "_law_same" "_law_same" (defArgs s__law_same) (defBody s__law_same) (defScope s__law_same) .none kV__law_same dc__law_same pm__law_same an__law_same cd__law_same ct__law_same), sl__law_same⟩)
    (fc__law_same : PySem.W.codeIn K cd__law_same "_law_same" = true)
    (fk__law_same : PySem.W.keepIn K (.ref a__law_same) = true)
    (fa__law_cell : PySem.W.nsIn K mainGlobals "_law_cell" = some (some (.ref a__law_cell)))
    (fl__law_cell : K.lookup a__law_cell = some ⟨oc__law_cell, od__law_cell, .func (PySem.W.fnOf "_law_cell" "_law_cell" (defArgs s__law_cell) (defBody s__law_cell) (defScope s__law_cell) .none kV__law_cell dc__law_cell pm__law_cell an__law_cell cd__law_cell ct__law_cell), sl__law_cell⟩)
    (fc__law_cell : PySem.W.codeIn K cd__law_cell "_law_cell" = true)
    (fk__law_cell : PySem.W.keepIn K (.ref a__law_cell) = true)
    (fa__law_digits : PySem.W.nsIn K mainGlobals "_law_digits" = some (some (.ref a__law_digits)))
    (fl__law_digits : K.lookup a__law_digits = some ⟨oc__law_digits, od__law_digits, .func (PySem.W.fnOf "_law_digits" "_law_digits" (defArgs s__law_digits) (defBody s__law_digits) (defScope s__law_digits) .none kV__law_digits dc__law_digits pm__law_digits an__law_digits cd__law_digits ct__law_digits), sl__law_digits⟩)
    (fc__law_digits : PySem.W.codeIn K cd__law_digits "_law_digits" = true)
    (fk__law_digits : PySem.W.keepIn K (.ref a__law_digits) = true)
    (fa__law_box : PySem.W.nsIn K mainGlobals "_law_box" = some (some (.ref a__law_box)))
    (fl__law_box : K.lookup a__law_box = some ⟨oc__law_box, od__law_box, .func (PySem.W.fnOf "_law_box" "_law_box" (defArgs s__law_box) (defBody s__law_box) (defScope s__law_box) .none kV__law_box dc__law_box pm__law_box an__law_box cd__law_box ct__law_box), sl__law_box⟩)
    (fc__law_box : PySem.W.codeIn K cd__law_box "_law_box" = true)
    (fk__law_box : PySem.W.keepIn K (.ref a__law_box) = true)
    (fa__law_draw : PySem.W.nsIn K mainGlobals "_law_draw" = some (some (.ref a__law_draw)))
    (fl__law_draw : K.lookup a__law_draw = some ⟨oc__law_draw, od__law_draw, .func (PySem.W.fnOf "_law_draw" "_law_draw" (defArgs s__law_draw) (defBody s__law_draw) (defScope s__law_draw) .none kV__law_draw dc__law_draw pm__law_draw an__law_draw cd__law_draw ct__law_draw), sl__law_draw⟩)
    (fc__law_draw : PySem.W.codeIn K cd__law_draw "_law_draw" = true)
    (fk__law_draw : PySem.W.keepIn K (.ref a__law_draw) = true)
    (fa__law_near : PySem.W.nsIn K mainGlobals "_law_near" = some (some (.ref a__law_near)))
    (fl__law_near : K.lookup a__law_near = some ⟨oc__law_near, od__law_near, .func (PySem.W.fnOf "_law_near" "_law_near" (defArgs s__law_near) (defBody s__law_near) (defScope s__law_near) .none kV__law_near dc__law_near pm__law_near an__law_near cd__law_near ct__law_near), sl__law_near⟩)
    (fc__law_near : PySem.W.codeIn K cd__law_near "_law_near" = true)
    (fk__law_near : PySem.W.keepIn K (.ref a__law_near) = true)
    (fa__law_places : PySem.W.nsIn K mainGlobals "_law_places" = some (some (.ref a__law_places)))
    (fl__law_places : K.lookup a__law_places = some ⟨oc__law_places, od__law_places, .func (PySem.W.fnOf "_law_places" "_law_places" (defArgs s__law_places) (defBody s__law_places) (defScope s__law_places) .none kV__law_places dc__law_places pm__law_places an__law_places cd__law_places ct__law_places), sl__law_places⟩)
    (fc__law_places : PySem.W.codeIn K cd__law_places "_law_places" = true)
    (fk__law_places : PySem.W.keepIn K (.ref a__law_places) = true)
    (fa__law_minutes : PySem.W.nsIn K mainGlobals "_law_minutes" = some (some (.ref a__law_minutes)))
    (fl__law_minutes : K.lookup a__law_minutes = some ⟨oc__law_minutes, od__law_minutes, .func (PySem.W.fnOf "_law_minutes" "_law_minutes" (defArgs s__law_minutes) (defBody s__law_minutes) (defScope s__law_minutes) .none kV__law_minutes dc__law_minutes pm__law_minutes an__law_minutes cd__law_minutes ct__law_minutes), sl__law_minutes⟩)
    (fc__law_minutes : PySem.W.codeIn K cd__law_minutes "_law_minutes" = true)
    (fk__law_minutes : PySem.W.keepIn K (.ref a__law_minutes) = true)
    (fa__law_chart : PySem.W.nsIn K mainGlobals "_law_chart" = some (some (.ref a__law_chart)))
    (fl__law_chart : K.lookup a__law_chart = some ⟨oc__law_chart, od__law_chart, .func (PySem.W.fnOf "_law_chart" "_law_chart" (defArgs s__law_chart) (defBody s__law_chart) (defScope s__law_chart) .none kV__law_chart dc__law_chart pm__law_chart an__law_chart cd__law_chart ct__law_chart), sl__law_chart⟩)
    (fc__law_chart : PySem.W.codeIn K cd__law_chart "_law_chart" = true)
    (fk__law_chart : PySem.W.keepIn K (.ref a__law_chart) = true)
    (fa__law_waves : PySem.W.nsIn K mainGlobals "_law_waves" = some (some (.ref a__law_waves)))
    (fl__law_waves : K.lookup a__law_waves = some ⟨oc__law_waves, od__law_waves, .func (PySem.W.fnOf "_law_waves" "_law_waves" (defArgs s__law_waves) (defBody s__law_waves) (defScope s__law_waves) .none kV__law_waves dc__law_waves pm__law_waves an__law_waves cd__law_waves ct__law_waves), sl__law_waves⟩)
    (fc__law_waves : PySem.W.codeIn K cd__law_waves "_law_waves" = true)
    (fk__law_waves : PySem.W.keepIn K (.ref a__law_waves) = true)
    (fa__law_event : PySem.W.nsIn K mainGlobals "_law_event" = some (some (.ref a__law_event)))
    (fl__law_event : K.lookup a__law_event = some ⟨oc__law_event, od__law_event, .func (PySem.W.fnOf "_law_event" "_law_event" (defArgs s__law_event) (defBody s__law_event) (defScope s__law_event) .none kV__law_event dc__law_event pm__law_event an__law_event cd__law_event ct__law_event), sl__law_event⟩)
    (fc__law_event : PySem.W.codeIn K cd__law_event "_law_event" = true)
    (fk__law_event : PySem.W.keepIn K (.ref a__law_event) = true)
    (fa__law_gauges : PySem.W.nsIn K mainGlobals "_law_gauges" = some (some (.ref a__law_gauges)))
    (fl__law_gauges : K.lookup a__law_gauges = some ⟨oc__law_gauges, od__law_gauges, .func (PySem.W.fnOf "_law_gauges" "_law_gauges" (defArgs s__law_gauges) (defBody s__law_gauges) (defScope s__law_gauges) .none kV__law_gauges dc__law_gauges pm__law_gauges an__law_gauges cd__law_gauges ct__law_gauges), sl__law_gauges⟩)
    (fc__law_gauges : PySem.W.codeIn K cd__law_gauges "_law_gauges" = true)
    (fk__law_gauges : PySem.W.keepIn K (.ref a__law_gauges) = true)
    (fa__law_seen : PySem.W.nsIn K mainGlobals "_law_seen" = some (some (.ref a__law_seen)))
    (fl__law_seen : K.lookup a__law_seen = some ⟨oc__law_seen, od__law_seen, .func (PySem.W.fnOf "_law_seen" "_law_seen" (defArgs s__law_seen) (defBody s__law_seen) (defScope s__law_seen) .none kV__law_seen dc__law_seen pm__law_seen an__law_seen cd__law_seen ct__law_seen), sl__law_seen⟩)
    (fc__law_seen : PySem.W.codeIn K cd__law_seen "_law_seen" = true)
    (fk__law_seen : PySem.W.keepIn K (.ref a__law_seen) = true)
    (fa__law_story : PySem.W.nsIn K mainGlobals "_law_story" = some (some (.ref a__law_story)))
    (fl__law_story : K.lookup a__law_story = some ⟨oc__law_story, od__law_story, .func (PySem.W.fnOf "_law_story" "_law_story" (defArgs s__law_story) (defBody s__law_story) (defScope s__law_story) .none kV__law_story dc__law_story pm__law_story an__law_story cd__law_story ct__law_story), sl__law_story⟩)
    (fc__law_story : PySem.W.codeIn K cd__law_story "_law_story" = true)
    (fk__law_story : PySem.W.keepIn K (.ref a__law_story) = true)
    (fa__law_bent : PySem.W.nsIn K mainGlobals "_law_bent" = some (some (.ref a__law_bent)))
    (fl__law_bent : K.lookup a__law_bent = some ⟨oc__law_bent, od__law_bent, .func (PySem.W.fnOf "_law_bent" "_law_bent" (defArgs s__law_bent) (defBody s__law_bent) (defScope s__law_bent) .none kV__law_bent dc__law_bent pm__law_bent an__law_bent cd__law_bent ct__law_bent), sl__law_bent⟩)
    (fc__law_bent : PySem.W.codeIn K cd__law_bent "_law_bent" = true)
    (fk__law_bent : PySem.W.keepIn K (.ref a__law_bent) = true)
    (fa__law_too_early : PySem.W.nsIn K mainGlobals "_law_too_early" = some (some (.ref a__law_too_early)))
    (fl__law_too_early : K.lookup a__law_too_early = some ⟨oc__law_too_early, od__law_too_early, .func (PySem.W.fnOf "_law_too_early" "_law_too_early" (defArgs s__law_too_early) (defBody s__law_too_early) (defScope s__law_too_early) .none kV__law_too_early dc__law_too_early pm__law_too_early an__law_too_early cd__law_too_early ct__law_too_early), sl__law_too_early⟩)
    (fc__law_too_early : PySem.W.codeIn K cd__law_too_early "_law_too_early" = true)
    (fk__law_too_early : PySem.W.keepIn K (.ref a__law_too_early) = true)
    (fa__law_is_reason : PySem.W.nsIn K mainGlobals "_law_is_reason" = some (some (.ref a__law_is_reason)))
    (fl__law_is_reason : K.lookup a__law_is_reason = some ⟨oc__law_is_reason, od__law_is_reason, .func (PySem.W.fnOf "_law_is_reason" "_law_is_reason" (defArgs s__law_is_reason) (defBody s__law_is_reason) (defScope s__law_is_reason) .none kV__law_is_reason dc__law_is_reason pm__law_is_reason an__law_is_reason cd__law_is_reason ct__law_is_reason), sl__law_is_reason⟩)
    (fc__law_is_reason : PySem.W.codeIn K cd__law_is_reason "_law_is_reason" = true)
    (fk__law_is_reason : PySem.W.keepIn K (.ref a__law_is_reason) = true)
    (fa__law_is_refuted : PySem.W.nsIn K mainGlobals "_law_is_refuted" = some (some (.ref a__law_is_refuted)))
    (fl__law_is_refuted : K.lookup a__law_is_refuted = some ⟨oc__law_is_refuted, od__law_is_refuted, .func (PySem.W.fnOf "_law_is_refuted" "_law_is_refuted" (defArgs s__law_is_refuted) (defBody s__law_is_refuted) (defScope s__law_is_refuted) .none kV__law_is_refuted dc__law_is_refuted pm__law_is_refuted an__law_is_refuted cd__law_is_refuted ct__law_is_refuted), sl__law_is_refuted⟩)
    (fc__law_is_refuted : PySem.W.codeIn K cd__law_is_refuted "_law_is_refuted" = true)
    (fk__law_is_refuted : PySem.W.keepIn K (.ref a__law_is_refuted) = true)
    (fa__law_a_reason : PySem.W.nsIn K mainGlobals "_law_a_reason" = some (some (.ref a__law_a_reason)))
    (fl__law_a_reason : K.lookup a__law_a_reason = some ⟨oc__law_a_reason, od__law_a_reason, .func (PySem.W.fnOf "_law_a_reason" "_law_a_reason" (defArgs s__law_a_reason) (defBody s__law_a_reason) (defScope s__law_a_reason) .none kV__law_a_reason dc__law_a_reason pm__law_a_reason an__law_a_reason cd__law_a_reason ct__law_a_reason), sl__law_a_reason⟩)
    (fc__law_a_reason : PySem.W.codeIn K cd__law_a_reason "_law_a_reason" = true)
    (fk__law_a_reason : PySem.W.keepIn K (.ref a__law_a_reason) = true)
    (fa_law : PySem.W.nsIn K mainGlobals "law" = some (some (.ref a_law)))
    (fl_law : K.lookup a_law = some ⟨oc_law, od_law, .func (PySem.W.fnOf "law" "law" (defArgs s_law) (defBody s_law) (defScope s_law) .none kV_law dc_law pm_law an_law cd_law ct_law), sl_law⟩)
    (fc_law : PySem.W.codeIn K cd_law "law" = true)
    (fk_law : PySem.W.keepIn K (.ref a_law) = true)
    (nb_all : PySem.W.nsIn K mainGlobals "all" = some none)
    (nb_bool : PySem.W.nsIn K mainGlobals "bool" = some none)
    (nb_dict : PySem.W.nsIn K mainGlobals "dict" = some none)
    (nb_int : PySem.W.nsIn K mainGlobals "int" = some none)
    (nb_isinstance : PySem.W.nsIn K mainGlobals "isinstance" = some none)
    (nb_len : PySem.W.nsIn K mainGlobals "len" = some none)
    (nb_list : PySem.W.nsIn K mainGlobals "list" = some none)
    (nb_range : PySem.W.nsIn K mainGlobals "range" = some none)
    (nb_set : PySem.W.nsIn K mainGlobals "set" = some none)
    (nb_sorted : PySem.W.nsIn K mainGlobals "sorted" = some none)
    (nb_str : PySem.W.nsIn K mainGlobals "str" = some none)
    (nb_tuple : PySem.W.nsIn K mainGlobals "tuple" = some none)
    (nb_zip : PySem.W.nsIn K mainGlobals "zip" = some none)
    (im_heappop : PySem.W.nsIn K mainGlobals "heappop" = some (some (.builtin "_heapq.heappop")))
    (im_heappush : PySem.W.nsIn K mainGlobals "heappush" = some (some (.builtin "_heapq.heappush")))
    (co_HIGH : PySem.W.nsIn K mainGlobals "HIGH" = some (some (.str "^" tk_HIGH)))
    (co_LAND : PySem.W.nsIn K mainGlobals "LAND" = some (some (.str "abcdefghi" tk_LAND)))
    (co_MOST_SIDE : PySem.W.nsIn K mainGlobals "MOST_SIDE" = some (some (.int 7 tk_MOST_SIDE)))
    (co_MOST_SOURCES : PySem.W.nsIn K mainGlobals "MOST_SOURCES" = some (some (.int 6 tk_MOST_SOURCES)))
    (co_ROCK : PySem.W.nsIn K mainGlobals "ROCK" = some (some (.str "#" tk_ROCK)))
    (co_WATER : PySem.W.nsIn K mainGlobals "WATER" = some (some (.str "123456789" tk_WATER)))
    (xe_BadChart : PySem.W.excIn K C_BadChart [.type "ValueError", .type "Exception", .type "BaseException", .type "object"] "ValueError.__new__" = true)
    (xk_BadChart : PySem.W.keepIn K (.ref C_BadChart) = true)
    (xb_BadChart : PySem.W.subIn K (.ref C_BadChart) (.type "BaseException") = some true)
    (xt_BadChart : PySem.W.typeIn K (.ref C_BadChart) = some (.type "type"))
    (xi_BadChart : PySem.W.isClsIn K C_BadChart = true)
    (ss_BadChart_BadChart : PySem.W.subIn K (.ref C_BadChart) (.ref C_BadChart) = some true)
    : Txt K mg ⟨tabT [("ShoreError", C_ShoreError), ("BadChart", C_BadChart), ("Chart", C_Chart)], tabT [("has_signs_only", a_has_signs_only), ("are_rows", a_are_rows), ("is_ascending", a_is_ascending), ("is_inside", a_is_inside), ("has_sign", a_has_sign), ("are_sources", a_are_sources), ("Chart.__init__", a_Chart_init), ("is_water", a_is_water), ("beside", a_beside), ("water_beside", a_water_beside), ("crossing_minutes", a_crossing_minutes), ("step_minutes", a_step_minutes), ("reached_times", a_reached_times), ("least_arrival", a_least_arrival), ("comes_too_soon", a_comes_too_soon), ("is_right", a_is_right), ("is_refutation", a_is_refutation), ("_law_is_integer", a__law_is_integer), ("_law_same", a__law_same), ("_law_cell", a__law_cell), ("_law_digits", a__law_digits), ("_law_box", a__law_box), ("_law_draw", a__law_draw), ("_law_near", a__law_near), ("_law_places", a__law_places), ("_law_minutes", a__law_minutes), ("_law_chart", a__law_chart), ("_law_waves", a__law_waves), ("_law_event", a__law_event), ("_law_gauges", a__law_gauges), ("_law_seen", a__law_seen), ("_law_story", a__law_story), ("_law_bent", a__law_bent), ("_law_too_early", a__law_too_early), ("_law_is_reason", a__law_is_reason), ("_law_is_refuted", a__law_is_refuted), ("_law_a_reason", a__law_a_reason), ("law", a_law)], 0, none, fun a ns => ∀ H, SqL K H a (ns.map V.int)⟩ where
  f_has_signs_only := ⟨_, ⟨fun_mk fl_has_signs_only fc_has_signs_only fk_has_signs_only, (fun_mk (st := s_has_signs_only) fl_has_signs_only fc_has_signs_only fk_has_signs_only).binds (ps := ["row"]) fun _ _ _ _ _ _ us hl => match us, hl with | [_], _ => rfl, fk_has_signs_only, PySem.W.mg_of X G fa_has_signs_only⟩⟩
  f_are_rows := ⟨_, ⟨fun_mk fl_are_rows fc_are_rows fk_are_rows, (fun_mk (st := s_are_rows) fl_are_rows fc_are_rows fk_are_rows).binds (ps := ["rows"]) fun _ _ _ _ _ _ us hl => match us, hl with | [_], _ => rfl, fk_are_rows, PySem.W.mg_of X G fa_are_rows⟩⟩
  f_is_ascending := ⟨_, ⟨fun_mk fl_is_ascending fc_is_ascending fk_is_ascending, (fun_mk (st := s_is_ascending) fl_is_ascending fc_is_ascending fk_is_ascending).binds (ps := ["places"]) fun _ _ _ _ _ _ us hl => match us, hl with | [_], _ => rfl, fk_is_ascending, PySem.W.mg_of X G fa_is_ascending⟩⟩
  f_is_inside := ⟨_, ⟨fun_mk fl_is_inside fc_is_inside fk_is_inside, (fun_mk (st := s_is_inside) fl_is_inside fc_is_inside fk_is_inside).binds (ps := ["rows", "place"]) fun _ _ _ _ _ _ us hl => match us, hl with | [_, _], _ => rfl, fk_is_inside, PySem.W.mg_of X G fa_is_inside⟩⟩
  f_has_sign := ⟨_, ⟨fun_mk fl_has_sign fc_has_sign fk_has_sign, (fun_mk (st := s_has_sign) fl_has_sign fc_has_sign fk_has_sign).binds (ps := ["rows", "place", "signs"]) fun _ _ _ _ _ _ us hl => match us, hl with | [_, _, _], _ => rfl, fk_has_sign, PySem.W.mg_of X G fa_has_sign⟩⟩
  f_are_sources := ⟨_, ⟨fun_mk fl_are_sources fc_are_sources fk_are_sources, (fun_mk (st := s_are_sources) fl_are_sources fc_are_sources fk_are_sources).binds (ps := ["rows", "sources"]) fun _ _ _ _ _ _ us hl => match us, hl with | [_, _], _ => rfl, fk_are_sources, PySem.W.mg_of X G fa_are_sources⟩⟩
  f_Chart_init := ⟨_, ⟨fun_mk fl_Chart_init fc_Chart_init fk_Chart_init, (fun_mk (st := s_Chart_init) fl_Chart_init fc_Chart_init fk_Chart_init).binds (ps := ["self", "rows", "sources"]) fun _ _ _ _ _ _ us hl => match us, hl with | [_, _, _], _ => rfl⟩⟩
  f_is_water := ⟨_, ⟨fun_mk fl_is_water fc_is_water fk_is_water, (fun_mk (st := s_is_water) fl_is_water fc_is_water fk_is_water).binds (ps := ["chart", "place"]) fun _ _ _ _ _ _ us hl => match us, hl with | [_, _], _ => rfl, fk_is_water, PySem.W.mg_of X G fa_is_water⟩⟩
  f_beside := ⟨_, ⟨fun_mk fl_beside fc_beside fk_beside, (fun_mk (st := s_beside) fl_beside fc_beside fk_beside).binds (ps := ["chart", "place"]) fun _ _ _ _ _ _ us hl => match us, hl with | [_, _], _ => rfl, fk_beside, PySem.W.mg_of X G fa_beside⟩⟩
  f_water_beside := ⟨_, ⟨fun_mk fl_water_beside fc_water_beside fk_water_beside, (fun_mk (st := s_water_beside) fl_water_beside fc_water_beside fk_water_beside).binds (ps := ["chart", "place"]) fun _ _ _ _ _ _ us hl => match us, hl with | [_, _], _ => rfl, fk_water_beside, PySem.W.mg_of X G fa_water_beside⟩⟩
  f_crossing_minutes := ⟨_, ⟨fun_mk fl_crossing_minutes fc_crossing_minutes fk_crossing_minutes, (fun_mk (st := s_crossing_minutes) fl_crossing_minutes fc_crossing_minutes fk_crossing_minutes).binds (ps := ["chart", "place"]) fun _ _ _ _ _ _ us hl => match us, hl with | [_, _], _ => rfl, fk_crossing_minutes, PySem.W.mg_of X G fa_crossing_minutes⟩⟩
  f_step_minutes := ⟨_, ⟨fun_mk fl_step_minutes fc_step_minutes fk_step_minutes, (fun_mk (st := s_step_minutes) fl_step_minutes fc_step_minutes fk_step_minutes).binds (ps := ["chart", "one", "two"]) fun _ _ _ _ _ _ us hl => match us, hl with | [_, _, _], _ => rfl, fk_step_minutes, PySem.W.mg_of X G fa_step_minutes⟩⟩
  f_reached_times := ⟨_, ⟨fun_mk fl_reached_times fc_reached_times fk_reached_times, (fun_mk (st := s_reached_times) fl_reached_times fc_reached_times fk_reached_times).binds (ps := ["chart", "cell"]) fun _ _ _ _ _ _ us hl => match us, hl with | [_, _], _ => rfl, fk_reached_times, PySem.W.mg_of X G fa_reached_times⟩⟩
  f_least_arrival := ⟨_, ⟨fun_mk fl_least_arrival fc_least_arrival fk_least_arrival, (fun_mk (st := s_least_arrival) fl_least_arrival fc_least_arrival fk_least_arrival).binds (ps := ["time", "clock"]) fun _ _ _ _ _ _ us hl => match us, hl with | [_, _], _ => rfl, fk_least_arrival, PySem.W.mg_of X G fa_least_arrival⟩⟩
  f_comes_too_soon := ⟨_, ⟨fun_mk fl_comes_too_soon fc_comes_too_soon fk_comes_too_soon, (fun_mk (st := s_comes_too_soon) fl_comes_too_soon fc_comes_too_soon fk_comes_too_soon).binds (ps := ["times", "seen", "clock", "start", "other"]) fun _ _ _ _ _ _ us hl => match us, hl with | [_, _, _, _, _], _ => rfl, fk_comes_too_soon, PySem.W.mg_of X G fa_comes_too_soon⟩⟩
  f_is_right := ⟨_, ⟨fun_mk fl_is_right fc_is_right fk_is_right, (fun_mk (st := s_is_right) fl_is_right fc_is_right fk_is_right).binds (ps := ["times", "seen", "clock", "gauge", "reason"]) fun _ _ _ _ _ _ us hl => match us, hl with | [_, _, _, _, _], _ => rfl, fk_is_right, PySem.W.mg_of X G fa_is_right⟩⟩
  f_is_refutation := ⟨_, ⟨fun_mk fl_is_refutation fc_is_refutation fk_is_refutation, (fun_mk (st := s_is_refutation) fl_is_refutation fc_is_refutation fk_is_refutation).binds (ps := ["chart", "readings", "clock", "gauge", "reasons"]) fun _ _ _ _ _ _ us hl => match us, hl with | [_, _, _, _, _], _ => rfl, fk_is_refutation, PySem.W.mg_of X G fa_is_refutation⟩⟩
  f__law_is_integer := ⟨_, ⟨fun_mk fl__law_is_integer fc__law_is_integer fk__law_is_integer, (fun_mk (st := s__law_is_integer) fl__law_is_integer fc__law_is_integer fk__law_is_integer).binds (ps := ["actual"]) fun _ _ _ _ _ _ us hl => match us, hl with | [_], _ => rfl, fk__law_is_integer, PySem.W.mg_of X G fa__law_is_integer⟩⟩
  f__law_same := ⟨_, ⟨fun_mk fl__law_same fc__law_same fk__law_same, (fun_mk (st := s__law_same) fl__law_same fc__law_same fk__law_same).binds (ps := ["actual", "due"]) fun _ _ _ _ _ _ us hl => match us, hl with | [_, _], _ => rfl, fk__law_same, PySem.W.mg_of X G fa__law_same⟩⟩
  f__law_cell := ⟨_, ⟨fun_mk fl__law_cell fc__law_cell fk__law_cell, (fun_mk (st := s__law_cell) fl__law_cell fc__law_cell fk__law_cell).binds (ps := ["script", "k"]) fun _ _ _ _ _ _ us hl => match us, hl with | [_, _], _ => rfl, fk__law_cell, PySem.W.mg_of X G fa__law_cell⟩⟩
  f__law_digits := ⟨_, ⟨fun_mk fl__law_digits fc__law_digits fk__law_digits, (fun_mk (st := s__law_digits) fl__law_digits fc__law_digits fk__law_digits).binds (ps := ["cell", "at"]) fun _ _ _ _ _ _ us hl => match us, hl with | [_, _], _ => rfl, fk__law_digits, PySem.W.mg_of X G fa__law_digits⟩⟩
  f__law_box := ⟨_, ⟨fun_mk fl__law_box fc__law_box fk__law_box, (fun_mk (st := s__law_box) fl__law_box fc__law_box fk__law_box).binds (ps := ["script", "at"]) fun _ _ _ _ _ _ us hl => match us, hl with | [_, _], _ => rfl, fk__law_box, PySem.W.mg_of X G fa__law_box⟩⟩
  f__law_draw := ⟨_, ⟨fun_mk fl__law_draw fc__law_draw fk__law_draw, (fun_mk (st := s__law_draw) fl__law_draw fc__law_draw fk__law_draw).binds (ps := ["box", "many"]) fun _ _ _ _ _ _ us hl => match us, hl with | [_, _], _ => rfl, fk__law_draw, PySem.W.mg_of X G fa__law_draw⟩⟩
  f__law_near := ⟨_, ⟨fun_mk fl__law_near fc__law_near fk__law_near, (fun_mk (st := s__law_near) fl__law_near fc__law_near fk__law_near).binds (ps := ["rows", "place"]) fun _ _ _ _ _ _ us hl => match us, hl with | [_, _], _ => rfl, fk__law_near, PySem.W.mg_of X G fa__law_near⟩⟩
  f__law_places := ⟨_, ⟨fun_mk fl__law_places fc__law_places fk__law_places, (fun_mk (st := s__law_places) fl__law_places fc__law_places fk__law_places).binds (ps := ["rows", "signs"]) fun _ _ _ _ _ _ us hl => match us, hl with | [_, _], _ => rfl, fk__law_places, PySem.W.mg_of X G fa__law_places⟩⟩
  f__law_minutes := ⟨_, ⟨fun_mk fl__law_minutes fc__law_minutes fk__law_minutes, (fun_mk (st := s__law_minutes) fl__law_minutes fc__law_minutes fk__law_minutes).binds (ps := ["rows", "place"]) fun _ _ _ _ _ _ us hl => match us, hl with | [_, _], _ => rfl, fk__law_minutes, PySem.W.mg_of X G fa__law_minutes⟩⟩
  f__law_chart := ⟨_, ⟨fun_mk fl__law_chart fc__law_chart fk__law_chart, (fun_mk (st := s__law_chart) fl__law_chart fc__law_chart fk__law_chart).binds (ps := ["script", "first", "most"]) fun _ _ _ _ _ _ us hl => match us, hl with | [_, _, _], _ => rfl, fk__law_chart, PySem.W.mg_of X G fa__law_chart⟩⟩
  f__law_waves := ⟨_, ⟨fun_mk fl__law_waves fc__law_waves fk__law_waves, (fun_mk (st := s__law_waves) fl__law_waves fc__law_waves fk__law_waves).binds (ps := ["rows", "starts"]) fun _ _ _ _ _ _ us hl => match us, hl with | [_, _], _ => rfl, fk__law_waves, PySem.W.mg_of X G fa__law_waves⟩⟩
  f__law_event := ⟨_, ⟨fun_mk fl__law_event fc__law_event fk__law_event, (fun_mk (st := s__law_event) fl__law_event fc__law_event fk__law_event).binds (ps := ["box", "sources", "most"]) fun _ _ _ _ _ _ us hl => match us, hl with | [_, _, _], _ => rfl, fk__law_event, PySem.W.mg_of X G fa__law_event⟩⟩
  f__law_gauges := ⟨_, ⟨fun_mk fl__law_gauges fc__law_gauges fk__law_gauges, (fun_mk (st := s__law_gauges) fl__law_gauges fc__law_gauges fk__law_gauges).binds (ps := ["box", "rows", "most"]) fun _ _ _ _ _ _ us hl => match us, hl with | [_, _, _], _ => rfl, fk__law_gauges, PySem.W.mg_of X G fa__law_gauges⟩⟩
  f__law_seen := ⟨_, ⟨fun_mk fl__law_seen fc__law_seen fk__law_seen, (fun_mk (st := s__law_seen) fl__law_seen fc__law_seen fk__law_seen).binds (ps := ["rows", "event", "gauges", "clock"]) fun _ _ _ _ _ _ us hl => match us, hl with | [_, _, _, _], _ => rfl, fk__law_seen, PySem.W.mg_of X G fa__law_seen⟩⟩
  f__law_story := ⟨_, ⟨fun_mk fl__law_story fc__law_story fk__law_story, (fun_mk (st := s__law_story) fl__law_story fc__law_story fk__law_story).binds (ps := ["script", "most"]) fun _ _ _ _ _ _ us hl => match us, hl with | [_, _], _ => rfl, fk__law_story, PySem.W.mg_of X G fa__law_story⟩⟩
  f__law_bent := ⟨_, ⟨fun_mk fl__law_bent fc__law_bent fk__law_bent, (fun_mk (st := s__law_bent) fl__law_bent fc__law_bent fk__law_bent).binds (ps := ["box", "readings", "clock"]) fun _ _ _ _ _ _ us hl => match us, hl with | [_, _, _], _ => rfl, fk__law_bent, PySem.W.mg_of X G fa__law_bent⟩⟩
  f__law_too_early := ⟨_, ⟨fun_mk fl__law_too_early fc__law_too_early fk__law_too_early, (fun_mk (st := s__law_too_early) fl__law_too_early fc__law_too_early fk__law_too_early).binds (ps := ["rows", "readings", "clock", "source", "gauge", "time", "other"]) fun _ _ _ _ _ _ us hl => match us, hl with | [_, _, _, _, _, _, _], _ => rfl, fk__law_too_early, PySem.W.mg_of X G fa__law_too_early⟩⟩
  f__law_is_reason := ⟨_, ⟨fun_mk fl__law_is_reason fc__law_is_reason fk__law_is_reason, (fun_mk (st := s__law_is_reason) fl__law_is_reason fc__law_is_reason fk__law_is_reason).binds (ps := ["rows", "readings", "clock", "source", "gauge", "time", "reason"]) fun _ _ _ _ _ _ us hl => match us, hl with | [_, _, _, _, _, _, _], _ => rfl, fk__law_is_reason, PySem.W.mg_of X G fa__law_is_reason⟩⟩
  f__law_is_refuted := ⟨_, ⟨fun_mk fl__law_is_refuted fc__law_is_refuted fk__law_is_refuted, (fun_mk (st := s__law_is_refuted) fl__law_is_refuted fc__law_is_refuted fk__law_is_refuted).binds (ps := ["rows", "sources", "readings", "clock", "gauge", "reasons"]) fun _ _ _ _ _ _ us hl => match us, hl with | [_, _, _, _, _, _], _ => rfl, fk__law_is_refuted, PySem.W.mg_of X G fa__law_is_refuted⟩⟩
  f__law_a_reason := ⟨_, ⟨fun_mk fl__law_a_reason fc__law_a_reason fk__law_a_reason, (fun_mk (st := s__law_a_reason) fl__law_a_reason fc__law_a_reason fk__law_a_reason).binds (ps := ["box", "rows", "readings", "clock", "source", "gauge", "time"]) fun _ _ _ _ _ _ us hl => match us, hl with | [_, _, _, _, _, _, _], _ => rfl, fk__law_a_reason, PySem.W.mg_of X G fa__law_a_reason⟩⟩
  f_law := ⟨_, ⟨fun_mk fl_law fc_law fk_law, (fun_mk (st := s_law) fl_law fc_law fk_law).binds (ps := ["script"]) fun _ _ _ _ _ _ us hl => match us, hl with | [_], _ => rfl, fk_law, PySem.W.mg_of X G fa_law⟩⟩
  n_all := PySem.W.mg_none_of X G nb_all
  n_bool := PySem.W.mg_none_of X G nb_bool
  n_dict := PySem.W.mg_none_of X G nb_dict
  n_int := PySem.W.mg_none_of X G nb_int
  n_isinstance := PySem.W.mg_none_of X G nb_isinstance
  n_len := PySem.W.mg_none_of X G nb_len
  n_list := PySem.W.mg_none_of X G nb_list
  n_range := PySem.W.mg_none_of X G nb_range
  n_set := PySem.W.mg_none_of X G nb_set
  n_sorted := PySem.W.mg_none_of X G nb_sorted
  n_str := PySem.W.mg_none_of X G nb_str
  n_tuple := PySem.W.mg_none_of X G nb_tuple
  n_zip := PySem.W.mg_none_of X G nb_zip
  h_heappop := PySem.W.mg_of X G im_heappop
  h_heappush := PySem.W.mg_of X G im_heappush
  c_HIGH := ⟨_, PySem.W.mg_of X G co_HIGH⟩
  c_LAND := ⟨_, PySem.W.mg_of X G co_LAND⟩
  c_MOST_SIDE := ⟨_, PySem.W.mg_of X G co_MOST_SIDE⟩
  c_MOST_SOURCES := ⟨_, PySem.W.mg_of X G co_MOST_SOURCES⟩
  c_ROCK := ⟨_, PySem.W.mg_of X G co_ROCK⟩
  c_WATER := ⟨_, PySem.W.mg_of X G co_WATER⟩
  e_ShoreError := PySem.W.mg_of X G gC_ShoreError
  e_BadChart := PySem.W.mg_of X G gC_BadChart
  c_Chart := PySem.W.mg_of X G gC_Chart
  a_Chart := ⟨⟨pg_Chart, hd_Chart, po_Chart, sa_Chart⟩, fun f hf => by simp only [List.mem_cons, List.not_mem_nil, or_false] at hf; rcases hf with rfl | rfl <;> first | exact no_Chart_rows | exact no_Chart_sources⟩
  k_Chart := ⟨mk_Chart, fa_Chart_init, fi_Chart_init, kc_Chart⟩
  x_BadChart := ⟨⟨_, xe_BadChart, PySem.F.excBase_ValueError⟩, xk_BadChart, xb_BadChart, xt_BadChart⟩
  scr := fun _ _ h => h
  kit_ok := fun c d b h => by
    unfold kit at h; split at h
    · cases h
  kit_okB := fun c d b h => by
    unfold kitB at h; split at h
    · cases h
  xf_ok := fun c f h => by
    unfold xft at h; split at h
    · cases h
  exm_ok := fun d c b h => by
    unfold exm at h; split at h
    · cases h
end P_k27
namespace P_k27
open PySem PySem.Spec L2 Pu
open PyProof.Rows hiding St
def boxD (ds : List Int) (at_ : Nat) : D := .lst [.lst (ds.map .int), .int (at_ : Nat)]
theorem draw_ok (ds : List Int) (p : Nat) {many : Int} (hm : 0 < many) : ∃ d, 0 ≤ d ∧ d < many ∧ m__law_draw.run [boxD ds p, .int many] = .ok (.int d) false [(0, boxD ds (p + 1))] := by
  by_cases h : p < ds.length
  · refine ⟨ds[p] % many, Int.emod_nonneg _ (by omega), Int.emod_lt_of_pos _ hm, ?_⟩
    simp [m__law_draw, runDef, b__law_draw, env0, boxD, iosAt, atI, ixN, h, hm]
  · refine ⟨0, by omega, hm, ?_⟩
    simp [m__law_draw, runDef, b__law_draw, env0, boxD, iosAt, atI, ixN, h, hm]
theorem cell_ok (ns : List Int) (k : Nat) : ∃ c, m__law_cell.run [.scr ns, .int (k : Nat)] = .ok (.int c) false [] := by
  by_cases h : k < ns.length
  · refine ⟨ns[k], ?_⟩
    simp [m__law_cell, runDef, b__law_cell, env0, iosAt, atI, ixN, h]
  · refine ⟨0, ?_⟩
    simp [m__law_cell, runDef, b__law_cell, env0, iosAt, atI, ixN, h]
theorem loopB (c a : Int) : ∀ (ds : List D) (z : Sl) (s : Int) (acc : List Int), acc.length + ds.length ≤ 60 → (∀ d ∈ ds, ∃ i : Int, d = .int i) →
    ∃ acc' s' z', forL (gNm 3) p2__law_digits ds [.val (.int c), .val (.int a), .own (.lst (acc.map .int)), z, .val (.int s)] = .ok .nx [.val (.int c), .val (.int a), .own (.lst (List.map .int acc')), z', .val (.int s')]
  | [], z, s, acc, _, _ => ⟨acc, s, z, rfl⟩
  | d :: ds, z, s, acc, hl, hd => by
    obtain ⟨i, rfl⟩ := hd d List.mem_cons_self
    obtain ⟨acc', s', z', e⟩ := loopB c a ds (.val (.int i)) ((s * 16807 + 7 * i + 1) % 2147483647) (acc ++ [((s * 16807 + 7 * i + 1) % 2147483647) / 997 % 1000]) (by simp at hl ⊢; omega) fun d hd' => hd d (List.mem_cons_of_mem _ hd')
    refine ⟨acc', s', z', ?_⟩
    rw [← e]
    have hb : acc.length < big := by simp at hl; unfold big; omega
    simp [forL, p2__law_digits, hb]
theorem loopA (a : Int) : ∀ (ds : List D) (z : Sl) (c : Int) (acc : List Int), acc.length + ds.length ≤ 60 →
    ∃ acc' c' z', forL (gNm 3) p1__law_digits ds [.val (.int c), .val (.int a), .own (.lst (acc.map .int)), z, .no] = .ok .nx [.val (.int c'), .val (.int a), .own (.lst (List.map .int acc')), z', .no]
  | [], z, c, acc, _ => ⟨acc, c, z, rfl⟩
  | d :: ds, z, c, acc, hl => by
    have hb : acc.length < big := by simp at hl; unfold big; omega
    by_cases h : 0 < c
    · obtain ⟨acc', c', z', e⟩ := loopA a ds (.val d) (c / 1000) (acc ++ [c % 1000]) (by simp at hl ⊢; omega)
      refine ⟨acc', c', z', ?_⟩
      rw [← e]
      simp [forL, p1__law_digits, hb, h]
    · obtain ⟨acc', c', z', e⟩ := loopA a ds (.val d) c acc (by simp at hl ⊢; omega)
      refine ⟨acc', c', z', ?_⟩
      rw [← e]
      simp [forL, p1__law_digits, h]
theorem digits_ok (c a : Int) : ∃ ds : List Int, m__law_digits.run [.int c, .int a] = .ok (.lst (ds.map .int)) true [] := by
  have hr : rng1D (.int 60) = some (rngD 0 60) := rfl
  have hl : (rngD 0 60).length ≤ 60 := by simp [rngD]
  have hd : ∀ d ∈ rngD 0 60, ∃ i : Int, d = .int i := fun d hd => by
    obtain ⟨i, _, rfl⟩ := List.mem_map.mp hd
    exact ⟨_, rfl⟩
  have core : ∀ c0 c : Int, (c0 < 0 ∧ c = 1 - 2 * c0) ∨ (¬ c0 < 0 ∧ c = c0) → ∃ ds : List Int, m__law_digits.run [.int c0, .int a] = .ok (.lst (ds.map .int)) true [] := by
    intro c0 c hc
    by_cases h : (1000000000000000000 : Int) ≤ c
    · obtain ⟨acc', c', z', e⟩ := loopA a (rngD 0 60) .no c [] (by simpa using hl)
      simp only [List.map_nil] at e
      refine ⟨acc', ?_⟩
      rcases hc with ⟨h0, rfl⟩ | ⟨h0, rfl⟩ <;> simp [m__law_digits, runDef, b__law_digits, env0, iosAt, h0, h, hr, e]
    · obtain ⟨acc', s', z', e⟩ := loopB c a (rngD 0 60) .no ((c * 48271 + a * 69621 + 11) % 2147483647) [] (by simpa using hl) hd
      simp only [List.map_nil] at e
      refine ⟨acc', ?_⟩
      rcases hc with ⟨h0, rfl⟩ | ⟨h0, rfl⟩ <;> simp [m__law_digits, runDef, b__law_digits, env0, iosAt, h0, h, hr, e]
  by_cases h : c < 0
  · exact core c _ (.inl ⟨h, rfl⟩)
  · exact core c _ (.inr ⟨h, rfl⟩)
theorem box_ok (ns : List Int) (k : Nat) : ∃ ds, m__law_box.run [.scr ns, .int (k : Nat)] = .ok (boxD ds 0) true [] := by
  obtain ⟨c, h1⟩ := cell_ok ns k
  obtain ⟨ds, h2⟩ := digits_ok c (k : Nat)
  refine ⟨ds, ?_⟩
  have i1 : m__law_cell.io = [] := rfl
  have i2 : m__law_digits.io = [] := rfl
  simp [m__law_box, runDef, b__law_box, env0, iosAt, boxD, i1, i2, h1, h2, big]

def allS : Str := (("123456789" : Str) ++ ("abcdefghi" : Str)) ++ ("^" : Str) ++ ("#" : Str)
def Gd (c : Nat) : Prop := c ∈ allS.cps.toList
@[simp] theorem io_draw : m__law_draw.io = [0] := rfl
@[simp] theorem io_box : m__law_box.io = [] := rfl
@[simp] theorem io_asc : m_is_ascending.io = [] := rfl
@[simp] theorem io_rows : m_are_rows.io = [] := rfl
@[simp] theorem io_srcs : m_are_sources.io = [] := rfl
@[simp] theorem io_sgn : m_has_sign.io = [] := rfl
@[simp] theorem io_ins : m_is_inside.io = [] := rfl
@[simp] theorem io_hso : m_has_signs_only.io = [] := rfl
@[simp] theorem io_init : m_Chart_init.io = [0] := rfl
theorem ix_lit (z : Str) (n : Nat) (hz : z.cps.toList.length = n) (hn : n ≤ 100) {P : Nat → Prop} (hP : ∀ c ∈ z.cps.toList, P c) {d : Int} (h0 : 0 ≤ d) (h1 : d < n) : ∃ c, P c ∧ ixD (.str z) (.int d) = some (sgn c) := by
  have hl : z.length ≤ big := by
    have e : z.length = z.cps.toList.length := by unfold Str.length; simp
    rw [e, hz]; unfold big; omega
  have hi : d.toNat < z.cps.toList.length := by omega
  refine ⟨z.cps.toList[d.toNat], hP _ (List.getElem_mem hi), ?_⟩
  rw [ixD_str, if_pos hl, atI_ofD h0 (by rw [hz]; exact h1), List.getElem?_eq_getElem hi]
  rfl
def Wt (c : Nat) : Prop := c ∈ (("123456789" : String) : Str).cps.toList
instance (c : Nat) : Decidable (Wt c) := by unfold Wt; infer_instance
/-- a water cell -/
def IsW (rs : List (List Nat)) (p : IP) : Prop := ∃ (i j : Nat) (cs : List Nat) (c : Nat), p = ((i : Int), (j : Int)) ∧ rs[i]? = some cs ∧ cs[j]? = some c ∧ Wt c
def IsZ (z : Str) (rs : List (List Nat)) (p : IP) : Prop := ∃ (i j : Nat) (cs : List Nat) (c : Nat), p = ((i : Int), (j : Int)) ∧ rs[i]? = some cs ∧ cs[j]? = some c ∧ c ∈ z.cps.toList
theorem sort_ok (ps : List IP) (h : ps.Nodup) : (sortL ps).Pairwise (fun p q => pLt p q = true) := by
  have a := sortL_asc ps
  have n : (sortL ps).Nodup := (sortL_perm ps).nodup_iff.mpr h
  refine List.Pairwise.imp₂ (fun p q h1 h2 => ?_) a n
  cases c : pLt p q with
  | true => rfl
  | false => exact absurd (pLt_anti c h1).symm h2
structure GoodC (rs : List (List Nat)) (srcs : List IP) : Prop where
  r1 : 1 ≤ rs.length
  r2 : rs.length ≤ 7
  w : ∃ w : Nat, 1 ≤ w ∧ w ≤ 7 ∧ ∀ cs ∈ rs, cs.length = w ∧ ∀ c ∈ cs, Gd c
  s1 : 1 ≤ srcs.length
  s2 : srcs.length ≤ 6
  asc : srcs.Pairwise (fun p q => pLt p q = true)
  wat : ∀ p ∈ srcs, IsW rs p
def partsD (rs : List (List Nat)) (srcs : List IP) : D := .tup [.tup (rs.map rowD), .tup (srcs.map Pu.pairD)]
def putRow (cs : List Nat) (j c : Nat) : List Nat := cs.take j ++ [c] ++ cs.drop (j + 1)
theorem putRow_len {cs : List Nat} {j c : Nat} (h : j < cs.length) : (putRow cs j c).length = cs.length := by
  unfold putRow; simp; omega
theorem putRow_at {cs : List Nat} {j c : Nat} (h : j < cs.length) : (putRow cs j c)[j]? = some c := by
  unfold putRow
  rw [List.append_assoc, List.getElem?_append_right (by simp; omega)]
  simp [List.length_take, Nat.min_eq_left (Nat.le_of_lt h)]
theorem putRow_gd {cs : List Nat} {j c : Nat} (h : ∀ c ∈ cs, Gd c) (hc : Gd c) : ∀ z ∈ putRow cs j c, Gd z := by
  intro z hz
  unfold putRow at hz
  simp only [List.mem_append, List.mem_singleton] at hz
  rcases hz with (q | q) | q
  · exact h z (List.mem_of_mem_take q)
  · rw [q]; exact hc
  · exact h z (List.mem_of_mem_drop q)
theorem Wt.gd {c : Nat} (h : Wt c) : Gd c := by
  have : ∀ c ∈ (("123456789" : String) : Str).cps.toList, Gd c := by unfold Gd; decide +kernel
  exact this c h
theorem sl_lo {cs : List Nat} {j : Nat} (h : cs.length ≤ 1000) (hj : j ≤ cs.length) : slD (rowD cs) none (some (j : Int)) = some (rowD (cs.take j)) := by
  show (if (⟨cs.toArray⟩ : Str).length ≤ big then some (D.str (cutS ⟨cs.toArray⟩ none (some (j : Int)))) else none) = _
  rw [row_len, if_pos (by unfold big; omega)]
  unfold cutS
  rw [row_len, HT.sIx_none, HT.sIx_nat]
  simp [rowD, Nat.min_eq_left hj]
theorem sl_hi {cs : List Nat} {j : Nat} (h : cs.length ≤ 1000) (hj : j ≤ cs.length) : slD (rowD cs) (some (j : Int)) none = some (rowD (cs.drop j)) := by
  show (if (⟨cs.toArray⟩ : Str).length ≤ big then some (D.str (cutS ⟨cs.toArray⟩ (some (j : Int)) none)) else none) = _
  rw [row_len, if_pos (by unfold big; omega)]
  unfold cutS
  rw [row_len, HT.sIx_none, HT.sIx_nat]
  have e : ((⟨cs.toArray⟩ : Str).cps.toList.drop (min j cs.length)).take (cs.length - min j cs.length) = cs.drop j := by
    rw [Nat.min_eq_left hj]
    show (cs.toArray.toList.drop j).take (cs.length - j) = cs.drop j
    rw [List.take_of_length_le (by simp)]
  rw [e]
  rfl
theorem add_rows {a b : List Nat} (h : a.length + b.length ≤ 1000) : aAdd (rowD a) (rowD b) = some (rowD (a ++ b)) := by
  show aAdd (.str ⟨a.toArray⟩) (.str ⟨b.toArray⟩) = _
  rw [aAdd_str, row_len, row_len, if_pos (by unfold big; omega)]
  show some (D.str ⟨a.toArray ++ b.toArray⟩) = _
  rw [List.append_toArray]
  rfl
structure ZInv (z : Str) (rs : List (List Nat)) (i j : Nat) (ps : List IP) : Prop where
  asc : ps.Pairwise (fun p q => pLt p q = true)
  wat : ∀ p ∈ ps, IsZ z rs p
  bel : ∀ p ∈ ps, pLt p ((i : Int), (j : Int)) = true
  cmp : ∀ p, IsZ z rs p → pLt p ((i : Int), (j : Int)) = true → p ∈ ps
theorem lt_next {p : IP} {i j : Nat} (h : pLt p ((i : Int), ((j + 1 : Nat) : Int)) = true) : pLt p ((i : Int), (j : Int)) = true ∨ p = ((i : Int), (j : Int)) := by
  have := pLt_iff.mp h
  simp only at this
  by_cases c : p = ((i : Int), (j : Int))
  · exact .inr c
  · refine .inl (pLt_iff.mpr ?_)
    simp only
    rcases this with q | ⟨q1, q2⟩
    · exact .inl q
    · refine .inr ⟨q1, ?_⟩
      have : p.2 ≠ (j : Int) := fun e => c (Prod.ext q1 e)
      omega
theorem ZInv.skip {z : Str} {rs : List (List Nat)} {i j : Nat} {ps : List IP} {cs : List Nat} {c : Nat} (h : ZInv z rs i j ps) (hi : rs[i]? = some cs) (hj : cs[j]? = some c) (hc : ¬ c ∈ z.cps.toList) : ZInv z rs i (j + 1) ps := by
  refine ⟨h.asc, h.wat, fun p hp => pLt_trans (h.bel p hp) (pLt_iff.mpr (.inr ⟨rfl, by show (j : Int) < ((j + 1 : Nat) : Int); omega⟩)), fun p hz hp => ?_⟩
  rcases lt_next hp with q | q
  · exact h.cmp p hz q
  · obtain ⟨i', j', cs', c', e, e1, e2, e3⟩ := hz
    rw [q] at e
    have a1 : i = i' := by have := congrArg Prod.fst e; simp only at this; omega
    have a2 : j = j' := by have := congrArg Prod.snd e; simp only at this; omega
    subst a1 a2
    rw [hi] at e1
    cases e1
    rw [hj] at e2
    cases e2
    exact absurd e3 hc
theorem ZInv.row {z : Str} {rs : List (List Nat)} {i : Nat} {ps : List IP} {cs : List Nat} (hi : rs[i]? = some cs) (h : ZInv z rs i cs.length ps) : ZInv z rs (i + 1) 0 ps := by
  refine ⟨h.asc, h.wat, fun p hp => pLt_trans (h.bel p hp) (pLt_iff.mpr (.inl (by show (i : Int) < ((i + 1 : Nat) : Int); omega))), fun p hz hp => h.cmp p hz ?_⟩
  obtain ⟨i', j', cs', c', e, e1, e2, e3⟩ := hz
  subst e
  have := pLt_iff.mp hp
  simp only at this
  refine pLt_iff.mpr ?_
  simp only
  by_cases c : i' = i
  · subst c
    rw [hi] at e1
    cases e1
    have := (List.getElem?_eq_some_iff.mp e2).1
    exact .inr ⟨rfl, by omega⟩
  · exact .inl (by omega)
theorem ZInv.add {z : Str} {rs : List (List Nat)} {i j : Nat} {ps : List IP} {cs : List Nat} {c : Nat} (h : ZInv z rs i j ps) (hi : rs[i]? = some cs) (hj : cs[j]? = some c) (hc : c ∈ z.cps.toList) : ZInv z rs i (j + 1) (ps ++ [((i : Int), (j : Int))]) := by
  refine ⟨List.pairwise_append.mpr ⟨h.asc, List.pairwise_singleton _ _, fun p hp q hq => ?_⟩, fun p hp => ?_, fun p hp => ?_, fun p hz hp => ?_⟩
  · rw [List.mem_singleton.mp hq]; exact h.bel p hp
  · rcases List.mem_append.mp hp with q | q
    · exact h.wat p q
    · rw [List.mem_singleton.mp q]; exact ⟨i, j, cs, c, rfl, hi, hj, hc⟩
  · rcases List.mem_append.mp hp with q | q
    · exact pLt_trans (h.bel p q) (pLt_iff.mpr (.inr ⟨rfl, by show (j : Int) < ((j + 1 : Nat) : Int); omega⟩))
    · rw [List.mem_singleton.mp q]; exact pLt_iff.mpr (.inr ⟨rfl, by show (j : Int) < ((j + 1 : Nat) : Int); omega⟩)
  · rcases lt_next hp with q | q
    · exact List.mem_append.mpr (.inl (h.cmp p hz q))
    · exact List.mem_append.mpr (.inr (List.mem_singleton.mpr q))
theorem ZInv.zero (z : Str) (rs : List (List Nat)) : ZInv z rs 0 0 [] := by
  refine ⟨List.Pairwise.nil, by simp, by simp, fun p hz hp => ?_⟩
  obtain ⟨i', j', cs', c', e, _⟩ := hz
  subst e
  have := pLt_iff.mp hp
  simp only at this
  omega
theorem ZInv.all {z : Str} {rs : List (List Nat)} {ps : List IP} (h : ZInv z rs rs.length 0 ps) (p : IP) : p ∈ ps ↔ IsZ z rs p := by
  refine ⟨h.wat p, fun hz => h.cmp p hz ?_⟩
  obtain ⟨i', j', cs', c', e, e1, _⟩ := hz
  subst e
  have := (List.getElem?_eq_some_iff.mp e1).1
  exact pLt_iff.mpr (.inl (by simp only; omega))
theorem placesIn {R : D} {s0 : Sl} (h0 : s0 = .val R ∨ s0 = .io R) {z : Str} {rs : List (List Nat)} {i : Nat} {cs : List Nat} (hR : ∀ (i : Nat) (cs : List Nat), rs[i]? = some cs → ixD R (.int (i : Nat)) = some (rowD cs)) (hi : rs[i]? = some cs) (hl : cs.length ≤ 100) : ∀ (m j : Nat) (ps : List IP) (y : Sl), j + m = cs.length → ZInv z rs i j ps → ps.length + m ≤ 10000 →
    ∃ (ps' : List IP) (y' : Sl), ZInv z rs i cs.length ps' ∧ ps'.length ≤ ps.length + m ∧ forL (gNm 4) p1__law_places (rr j m) [s0, .val (.str z), .own (.lst (ps.map Pu.pairD)), .val (.int (i : Nat)), y] = .ok .nx [s0, .val (.str z), .own (.lst (ps'.map Pu.pairD)), .val (.int (i : Nat)), y']
  | 0, j, ps, y, hj, h, _ => ⟨ps, y, by rw [← hj]; exact h, by omega, rfl⟩
  | m + 1, j, ps, y, hj, h, hb => by
    have hlt : j < cs.length := by omega
    have ej : cs[j]? = some cs[j] := List.getElem?_eq_getElem hlt
    have h1 := hR _ _ hi
    have h2 := ix_row (c := cs[j]) (by omega) ej
    have hbb : ps.length < 1000000 := by omega
    by_cases hw : cs[j] ∈ z.cps.toList
    · obtain ⟨ps', y', i1, i2, i3⟩ := placesIn h0 hR hi hl m (j + 1) (ps ++ [((i : Int), (j : Int))]) (.val (.int (j : Nat))) (by omega) (h.add hi ej hw) (by simp; omega)
      refine ⟨ps', y', i1, by simp at i2; omega, ?_⟩
      rw [← i3]
      rcases h0 with rfl | rfl <;> simp [-ixD_lst, -ixD_str, -ixD_tup, rr, forL, p1__law_places, h1, h2, sgn, hw, hbb, Pu.pairD, big]
    · obtain ⟨ps', y', i1, i2, i3⟩ := placesIn h0 hR hi hl m (j + 1) ps (.val (.int (j : Nat))) (by omega) (h.skip hi ej hw) (by omega)
      refine ⟨ps', y', i1, by omega, ?_⟩
      rw [← i3]
      rcases h0 with rfl | rfl <;> simp [-ixD_lst, -ixD_str, -ixD_tup, rr, forL, p1__law_places, h1, h2, sgn, hw]
theorem placesOut {R : D} {s0 : Sl} (h0 : s0 = .val R ∨ s0 = .io R) {z : Str} {rs : List (List Nat)} {w : Nat} (hR : ∀ (i : Nat) (cs : List Nat), rs[i]? = some cs → ixD R (.int (i : Nat)) = some (rowD cs)) (hw : ∀ cs ∈ rs, cs.length = w) (hl : w ≤ 100) : ∀ (m i : Nat) (ps : List IP) (z1 z2 : Sl), i + m = rs.length → ZInv z rs i 0 ps → ps.length + 100 * m ≤ 10000 →
    ∃ (ps' : List IP) (z1' z2' : Sl), ZInv z rs rs.length 0 ps' ∧ ps'.length ≤ ps.length + 100 * m ∧ forL (gNm 3) p2__law_places (rr i m) [s0, .val (.str z), .own (.lst (ps.map Pu.pairD)), z1, z2] = .ok .nx [s0, .val (.str z), .own (.lst (ps'.map Pu.pairD)), z1', z2']
  | 0, i, ps, z1, z2, hi, h, _ => ⟨ps, z1, z2, by rw [← hi]; exact h, by omega, rfl⟩
  | m + 1, i, ps, z1, z2, hi, h, hb => by
    have hlt : i < rs.length := by omega
    have ei : rs[i]? = some rs[i] := List.getElem?_eq_getElem hlt
    have hc := hw rs[i] (List.getElem_mem hlt)
    obtain ⟨qs, y, j1, j2, j3⟩ := placesIn h0 hR ei (by omega) rs[i].length 0 ps z2 (by omega) h (by omega)
    obtain ⟨ps', z1', z2', i1, i2, i3⟩ := placesOut h0 hR hw hl m (i + 1) qs (.val (.int (i : Nat))) y (by omega) (ZInv.row ei j1) (by omega)
    refine ⟨ps', z1', z2', i1, by omega, ?_⟩
    rw [← i3]
    have e0 : rs[0]? = some rs[0] := List.getElem?_eq_getElem (by omega)
    have l0 : rs[0].length = w := hw _ (List.getElem_mem (by omega))
    have h1 : ixD R (.int 0) = some (rowD rs[0]) := hR 0 _ e0
    have h2 := lenD_row rs[0] (by omega)
    have h3 := rng1_rr rs[i].length (by omega)
    rw [l0, ← hc] at h2
    rcases h0 with rfl | rfl <;> simp [-ixD_lst, -ixD_str, -ixD_tup, -lenD_str, rr, forL, p2__law_places, h1, h2, h3, j3]
theorem places_core {R : D} {s0 : Sl} (h0 : s0 = .val R ∨ s0 = .io R) (z : Str) {rs : List (List Nat)} {w : Nat} (hR : ∀ (i : Nat) (cs : List Nat), rs[i]? = some cs → ixD R (.int (i : Nat)) = some (rowD cs)) (hw : ∀ cs ∈ rs, cs.length = w) (hl : w ≤ 100) (hn : rs.length ≤ 50) : ∃ (ps : List IP) (z1 z2 : Sl), ps.Pairwise (fun p q => pLt p q = true) ∧ (∀ p, p ∈ ps ↔ IsZ z rs p) ∧ ps.length ≤ 5000 ∧ forL (gNm 3) p2__law_places (rr 0 rs.length) [s0, .val (.str z), .own (.lst []), .no, .no] = .ok .nx [s0, .val (.str z), .own (.lst (ps.map Pu.pairD)), z1, z2] := by
  obtain ⟨ps, z1, z2, h1, h2, h3⟩ := placesOut (z := z) h0 hR hw hl rs.length 0 [] .no .no (by omega) (ZInv.zero z rs) (by simp; omega)
  exact ⟨ps, z1, z2, h1.asc, h1.all, by simp at h2; omega, h3⟩
theorem places_ok {R : D} (z : Str) {rs : List (List Nat)} {w : Nat} (hR : ∀ (i : Nat) (cs : List Nat), rs[i]? = some cs → ixD R (.int (i : Nat)) = some (rowD cs)) (hL : lenD R = some (.int (rs.length : Nat))) (hw : ∀ cs ∈ rs, cs.length = w) (hl : w ≤ 100) (hn : rs.length ≤ 50) : ∃ ps : List IP, ps.Pairwise (fun p q => pLt p q = true) ∧ (∀ p, p ∈ ps ↔ IsZ z rs p) ∧ ps.length ≤ 5000 ∧ m__law_places.run [R, .str z] = .ok (.lst (ps.map Pu.pairD)) true [] := by
  obtain ⟨ps, z1, z2, h1, h2, h3, h4⟩ := places_core (s0 := .val R) (.inl rfl) z hR hw hl hn
  have h5 := rng1_rr rs.length (by omega)
  exact ⟨ps, h1, h2, h3, by simp [m__law_places, runDef, b__law_places, env0, iosAt, hL, h4, h5, big]⟩
theorem places_io {R : D} (z : Str) {rs : List (List Nat)} {w : Nat} (hR : ∀ (i : Nat) (cs : List Nat), rs[i]? = some cs → ixD R (.int (i : Nat)) = some (rowD cs)) (hL : lenD R = some (.int (rs.length : Nat))) (hw : ∀ cs ∈ rs, cs.length = w) (hl : w ≤ 100) (hn : rs.length ≤ 50) : ∃ ps : List IP, ps.Pairwise (fun p q => pLt p q = true) ∧ (∀ p, p ∈ ps ↔ IsZ z rs p) ∧ ps.length ≤ 5000 ∧ m__law_places_io0.run [R, .str z] = .ok (.lst (ps.map Pu.pairD)) true [(0, R)] := by
  obtain ⟨ps, z1, z2, h1, h2, h3, h4⟩ := places_core (s0 := .io R) (.inr rfl) z hR hw hl hn
  have h5 := rng1_rr rs.length (by omega)
  exact ⟨ps, h1, h2, h3, by simp [m__law_places_io0, runDef, b__law_places, env0, iosAt, hL, h4, h5, big]⟩
def kindsD : List D := [.str (("111234" : String) : Str), .str (("2" : String) : Str), .str (("1379" : String) : Str), .str (("123456789" : String) : Str), .str (("abcd" : String) : Str), .str (("a" : String) : Str), .str (("aabi" : String) : Str), .str (("abcdefghi" : String) : Str), .str (("^" : String) : Str), .str (("#" : String) : Str)]
theorem len_lit (z : Str) (n : Nat) (hz : z.cps.toList.length = n) (hn : n ≤ 100) : lenD (.str z) = some (.int (n : Nat)) := by
  have e : z.length = n := by rw [← hz]; unfold Str.length; simp
  rw [lenD_str, e, if_pos (by unfold big; omega)]
theorem kind_at {d : Int} (h0 : 0 ≤ d) (h1 : d < 10) : ∃ (z : Str) (n : Nat), ixD (.tup kindsD) (.int d) = some (.str z) ∧ lenD (.str z) = some (.int (n : Nat)) ∧ 0 < n ∧ n ≤ 100 ∧ z.cps.toList.length = n ∧ ∀ c ∈ z.cps.toList, Gd c := by
  have : d = 0 ∨ d = 1 ∨ d = 2 ∨ d = 3 ∨ d = 4 ∨ d = 5 ∨ d = 6 ∨ d = 7 ∨ d = 8 ∨ d = 9 := by omega
  rcases this with rfl | rfl | rfl | rfl | rfl | rfl | rfl | rfl | rfl | rfl
  · exact ⟨(("111234" : String) : Str), 6, rfl, len_lit _ _ (by decide +kernel) (by decide), by decide, by decide, by decide +kernel, by unfold Gd; decide +kernel⟩
  · exact ⟨(("2" : String) : Str), 1, rfl, len_lit _ _ (by decide +kernel) (by decide), by decide, by decide, by decide +kernel, by unfold Gd; decide +kernel⟩
  · exact ⟨(("1379" : String) : Str), 4, rfl, len_lit _ _ (by decide +kernel) (by decide), by decide, by decide, by decide +kernel, by unfold Gd; decide +kernel⟩
  · exact ⟨(("123456789" : String) : Str), 9, rfl, len_lit _ _ (by decide +kernel) (by decide), by decide, by decide, by decide +kernel, by unfold Gd; decide +kernel⟩
  · exact ⟨(("abcd" : String) : Str), 4, rfl, len_lit _ _ (by decide +kernel) (by decide), by decide, by decide, by decide +kernel, by unfold Gd; decide +kernel⟩
  · exact ⟨(("a" : String) : Str), 1, rfl, len_lit _ _ (by decide +kernel) (by decide), by decide, by decide, by decide +kernel, by unfold Gd; decide +kernel⟩
  · exact ⟨(("aabi" : String) : Str), 4, rfl, len_lit _ _ (by decide +kernel) (by decide), by decide, by decide, by decide +kernel, by unfold Gd; decide +kernel⟩
  · exact ⟨(("abcdefghi" : String) : Str), 9, rfl, len_lit _ _ (by decide +kernel) (by decide), by decide, by decide, by decide +kernel, by unfold Gd; decide +kernel⟩
  · exact ⟨(("^" : String) : Str), 1, rfl, len_lit _ _ (by decide +kernel) (by decide), by decide, by decide, by decide +kernel, by unfold Gd; decide +kernel⟩
  · exact ⟨(("#" : String) : Str), 1, rfl, len_lit _ _ (by decide +kernel) (by decide), by decide, by decide, by decide +kernel, by unfold Gd; decide +kernel⟩
theorem colLoop (ds : List Int) (a b c d e f g h x13 x14 x15 : Sl) : ∀ (xs : List D) (cs : List Nat) (p : Nat) (y10 y11 y12 : Sl), (∀ c ∈ cs, Gd c) → cs.length + xs.length ≤ 100 →
    ∃ (cs' : List Nat) (p' : Nat) (y10' y11' y12' : Sl), (∀ c ∈ cs', Gd c) ∧ cs'.length = cs.length + xs.length ∧ forL (gNm 10) p1__law_chart xs [a, b, c, d, e, f, g, h, .own (boxD ds p), .val (rowD cs), y10, y11, y12, x13, x14, x15] = .ok .nx [a, b, c, d, e, f, g, h, .own (boxD ds p'), .val (rowD cs'), y10', y11', y12', x13, x14, x15]
  | [], cs, p, y10, y11, y12, hg, _ => ⟨cs, p, y10, y11, y12, hg, rfl, rfl⟩
  | x :: xs, cs, p, y10, y11, y12, hg, hl => by
    obtain ⟨k, k0, k1, hk⟩ := draw_ok ds p (many := 10) (by decide)
    obtain ⟨z, n, z1, z2, z3, z4, z5, z6⟩ := kind_at k0 k1
    obtain ⟨i, i0, i1, hi⟩ := draw_ok ds (p + 1) (many := (n : Nat)) (by omega)
    obtain ⟨q, hq, hix⟩ := ix_lit z n z5 z4 z6 i0 i1
    have ha := add_rows (a := cs) (b := [q]) (by simp at hl ⊢; omega)
    obtain ⟨cs', p', y10', y11', y12', j1, j2, j3⟩ := colLoop ds a b c d e f g h x13 x14 x15 xs (cs ++ [q]) (p + 1 + 1) (.val x) (.val (.int k)) (.val (.str z)) (fun y hy => by
      rcases List.mem_append.mp hy with r | r
      · exact hg y r
      · rw [List.mem_singleton.mp r]; exact hq) (by simp at hl ⊢; omega)
    refine ⟨cs', p', y10', y11', y12', j1, by rw [j2]; simp; omega, ?_⟩
    rw [← j3]
    have hs : sgn q = rowD [q] := rfl
    have ek : D.tup [.str (("111234" : String) : Str), .str (("2" : String) : Str), .str (("1379" : String) : Str), .str (("123456789" : String) : Str), .str (("abcd" : String) : Str), .str (("a" : String) : Str), .str (("aabi" : String) : Str), .str (("abcdefghi" : String) : Str), .str (("^" : String) : Str), .str (("#" : String) : Str)] = .tup kindsD := rfl
    simp [-ixD_str, -ixD_tup, -lenD_str, forL, p1__law_chart, hk, ek, z1, z2, hi, hix, hs, ha, big]
theorem rowLoop (ns : List Int) (f w : Nat) (hw : w ≤ 100) (c d e x13 x14 x15 : Sl) : ∀ (m j : Nat) (rs : List (List Nat)) (y7 y8 y9 y10 y11 y12 : Sl), rs.length + m ≤ 100 → (∀ cs ∈ rs, cs.length = w ∧ ∀ c ∈ cs, Gd c) →
    ∃ (rs' : List (List Nat)) (y7' y8' y9' y10' y11' y12' : Sl), rs'.length = rs.length + m ∧ (∀ cs ∈ rs', cs.length = w ∧ ∀ c ∈ cs, Gd c) ∧
      forL (gNm 7) p2__law_chart (rr j m) [.val (.scr ns), .val (.int (f : Nat)), c, d, e, .val (.int (w : Nat)), .own (.lst (rs.map rowD)), y7, y8, y9, y10, y11, y12, x13, x14, x15] = .ok .nx [.val (.scr ns), .val (.int (f : Nat)), c, d, e, .val (.int (w : Nat)), .own (.lst (rs'.map rowD)), y7', y8', y9', y10', y11', y12', x13, x14, x15]
  | 0, j, rs, y7, y8, y9, y10, y11, y12, _, h => ⟨rs, y7, y8, y9, y10, y11, y12, rfl, h, rfl⟩
  | m + 1, j, rs, y7, y8, y9, y10, y11, y12, hl, h => by
    obtain ⟨ds, h1⟩ := box_ok ns (f + 1 + j)
    obtain ⟨cs, p', z10, z11, z12, h2, h3, h4⟩ := colLoop ds (.val (.scr ns)) (.val (.int (f : Nat))) c d e (.val (.int (w : Nat))) (.own (.lst (rs.map rowD))) (.val (.int (j : Nat))) x13 x14 x15 (rr 0 w) [] 0 y10 y11 y12 (by simp) (by rw [rr_len]; simp; omega)
    rw [rr_len] at h3
    simp only [List.length_nil, Nat.zero_add] at h3
    obtain ⟨rs', y7', y8', y9', y10', y11', y12', i1, i2, i3⟩ := rowLoop ns f w hw c d e x13 x14 x15 m (j + 1) (rs ++ [cs]) (.val (.int (j : Nat))) (.own (boxD ds p')) (.val (rowD cs)) z10 z11 z12 (by simp; omega) (fun z hz => by
      rcases List.mem_append.mp hz with q | q
      · exact h z q
      · rw [List.mem_singleton.mp q]; exact ⟨h3, h2⟩)
    refine ⟨rs', y7', y8', y9', y10', y11', y12', by rw [i1]; simp; omega, i2, ?_⟩
    rw [← i3]
    have e : ((f : Int) + 1 + (j : Int)) = ((f + 1 + j : Nat) : Int) := by omega
    have hb : rs.length < 1000000 := by omega
    have h5 := rng1_rr w (by omega)
    have e0 : D.str (("" : String) : Str) = rowD [] := by
      have : (("" : String) : Str) = (⟨#[]⟩ : Str) := by decide +kernel
      rw [this]
      rfl
    simp [-Int.natCast_add, forL, rr, p2__law_chart, e, h1, e0, h5, h4, hb, big]
theorem srcLoop (ds : List Int) (a b c e f g x7 x8 x9 x10 x11 x12 x13 : Sl) : ∀ (ws : List IP) (ps : List IP) (p : Nat) (z : Sl), ws.Pairwise (fun p q => pLt p q = true) → ps.Pairwise (fun p q => pLt p q = true) → (∀ q ∈ ps, ∀ r ∈ ws, pLt q r = true) → ps.length ≤ 4 →
    ∃ (ps' : List IP) (p' : Nat) (z' : Sl), ps'.Pairwise (fun p q => pLt p q = true) ∧ ps'.length ≤ 4 ∧ (∀ q ∈ ps', q ∈ ps ∨ q ∈ ws) ∧
      forL (gNm 15) p3__law_chart (ws.map Pu.pairD) [a, b, c, .own (boxD ds p), e, f, g, x7, x8, x9, x10, x11, x12, x13, .own (.lst (ps.map Pu.pairD)), z] = .ok .nx [a, b, c, .own (boxD ds p'), e, f, g, x7, x8, x9, x10, x11, x12, x13, .own (.lst (ps'.map Pu.pairD)), z']
  | [], ps, p, z, _, h, _, h2 => ⟨ps, p, z, h, h2, fun q hq => .inl hq, rfl⟩
  | w :: ws, ps, p, z, hw, h, hm, h2 => by
    obtain ⟨n1, n2⟩ := List.pairwise_cons.mp hw
    have skip : ∀ q, ∃ (ps' : List IP) (p' : Nat) (z' : Sl), ps'.Pairwise (fun p q => pLt p q = true) ∧ ps'.length ≤ 4 ∧ (∀ q ∈ ps', q ∈ ps ∨ q ∈ w :: ws) ∧
      forL (gNm 15) p3__law_chart (ws.map Pu.pairD) [a, b, c, .own (boxD ds q), e, f, g, x7, x8, x9, x10, x11, x12, x13, .own (.lst (ps.map Pu.pairD)), .val (Pu.pairD w)] = .ok .nx [a, b, c, .own (boxD ds p'), e, f, g, x7, x8, x9, x10, x11, x12, x13, .own (.lst (ps'.map Pu.pairD)), z'] := fun q => by
      obtain ⟨ps', p', z', i1, i3, i4, i5⟩ := srcLoop ds a b c e f g x7 x8 x9 x10 x11 x12 x13 ws ps q (.val (Pu.pairD w)) n2 h (fun q hq r hr => hm q hq r (List.mem_cons_of_mem _ hr)) h2
      exact ⟨ps', p', z', i1, i3, fun q hq => (i4 q hq).imp id (List.mem_cons_of_mem _), i5⟩
    by_cases c2 : ps.length < 4
    · obtain ⟨dd, _, _, hd⟩ := draw_ok ds p (many := 4) (by decide)
      have c2' : (ps.length : Int) < 4 := by omega
      by_cases c3 : dd = 0
      · obtain ⟨ps', p', z', i1, i3, i4, i5⟩ := srcLoop ds a b c e f g x7 x8 x9 x10 x11 x12 x13 ws (ps ++ [w]) (p + 1) (.val (Pu.pairD w)) n2 (List.pairwise_append.mpr ⟨h, List.pairwise_singleton _ _, fun q hq r hr => by
            rw [List.mem_singleton.mp hr]; exact hm q hq w List.mem_cons_self⟩) (fun q hq r hr => by
            rcases List.mem_append.mp hq with z | z
            · exact hm q z r (List.mem_cons_of_mem _ hr)
            · rw [List.mem_singleton.mp z]; exact n1 r hr) (by simp; omega)
        refine ⟨ps', p', z', i1, i3, fun q hq => ?_, ?_⟩
        · rcases i4 q hq with z | z
          · rcases List.mem_append.mp z with z | z
            · exact .inl z
            · rw [List.mem_singleton.mp z]; exact .inr List.mem_cons_self
          · exact .inr (List.mem_cons_of_mem _ z)
        · rw [← i5]
          have hb : ps.length < 1000000 := by omega
          subst c3
          simp [forL, p3__law_chart, c2', hd, hb, big]
      · obtain ⟨ps', p', z', i1, i3, i4, i5⟩ := skip (p + 1)
        refine ⟨ps', p', z', i1, i3, i4, ?_⟩
        rw [← i5]
        simp [forL, p3__law_chart, c2', hd, c3, big]
    · obtain ⟨ps', p', z', i1, i3, i4, i5⟩ := skip p
      have c2' : ¬ (ps.length : Int) < 4 := by omega
      refine ⟨ps', p', z', i1, i3, i4, ?_⟩
      rw [← i5]
      simp [forL, p3__law_chart, c2', big]
end P_k27
namespace P_k27
open PySem PySem.Spec L2 Pu
open PyProof.Rows hiding St
theorem lc_true {tg : MG} {elt : M D} {vs : List Nat} (I : D → Prop) (E : En) (hs : ∀ d, I d → ∃ e1 e3, tg d E = some e1 ∧ elt e1 = .ok (.bl true) e3 ∧ wipeE e3 vs = E) :
    ∀ (ds : List D) (k : Nat), (∀ d ∈ ds, I d) → k + ds.length ≤ 1000 → lcL tg tYs elt vs ds (List.replicate k (.bl true)) E = .ok (.lst (List.replicate (k + ds.length) (.bl true))) E
  | [], k, _, _ => rfl
  | d :: ds, k, h, hl => by
    obtain ⟨e1, e3, h1, h2, h3⟩ := hs d (h d List.mem_cons_self)
    have ih := lc_true I E hs ds (k + 1) (fun x hx => h x (List.mem_cons_of_mem _ hx)) (by simp at hl; omega)
    have e : List.replicate k (D.bl true) ++ [.bl true] = List.replicate (k + 1) (.bl true) := by rw [List.replicate_succ']
    have e' : k + (d :: ds).length = k + 1 + ds.length := by simp; omega
    rw [e', ← ih, ← e, ← h3]
    have hb : k < big := by simp at hl; unfold big; omega
    rw [h3]
    simp [lcL, h1, h2, Out.nox, hb, h3]
theorem all_true (n : Nat) : allD (.lst (List.replicate n (.bl true))) = some (.bl true) := by
  have e : List.replicate n (D.bl true) = (List.replicate n true).map D.bl := by simp
  show (blsOf (List.replicate n (D.bl true))).map (fun bs => D.bl (bs.all id)) = _
  rw [e, blsOf_map]
  simp
theorem items_row (cs : List Nat) : itemsD (rowD cs) = some (cs.map sgn) := by
  show some (sgnD ⟨cs.toArray⟩) = _
  unfold sgnD
  rfl
theorem cat_ok (e : En) : (eOp aAdd (eOp aAdd (eOp aAdd (eC (.str ("123456789" : Str))) (eC (.str ("abcdefghi" : Str)))) (eC (.str ("^" : Str)))) (eC (.str ("#" : Str))) : M D) e = .ok (.str allS) e := by
  have h1 : aAdd (.str ("123456789" : Str)) (.str ("abcdefghi" : Str)) = some (.str (("123456789" : Str) ++ ("abcdefghi" : Str))) := by rw [aAdd_str, if_pos (by decide +kernel)]
  have h2 : aAdd (.str (("123456789" : Str) ++ ("abcdefghi" : Str))) (.str ("^" : Str)) = some (.str (("123456789" : Str) ++ ("abcdefghi" : Str) ++ ("^" : Str))) := by rw [aAdd_str, if_pos (by decide +kernel)]
  have h3 : aAdd (.str (("123456789" : Str) ++ ("abcdefghi" : Str) ++ ("^" : Str))) (.str ("#" : Str)) = some (.str allS) := by rw [aAdd_str, if_pos (by decide +kernel)]; rfl
  simp only [ap_eOp, ap_eC, bind_ok, h1, h2, h3, of_some]
theorem hso_ok {cs : List Nat} (h : ∀ c ∈ cs, Gd c) (hl : cs.length ≤ 900) : m_has_signs_only.run [rowD cs] = .ok (.bl true) false [] := by
  have hs := lc_true (tg := gNm 1) (elt := q1_has_signs_only) (vs := [1]) (fun d => ∃ c, Gd c ∧ d = sgn c) [.val (rowD cs), .no] (fun d ⟨c, hc, hd⟩ => by
    subst hd
    refine ⟨[.val (rowD cs), .val (sgn c)], [.val (rowD cs), .val (sgn c)], by simp, ?_, by simp⟩
    have hc' : c ∈ allS.cps.toList := hc
    have e := cat_ok [.val (rowD cs), .val (sgn c)]
    unfold q1_has_signs_only
    rw [ap_eOp]
    simp only [ap_eVar, List.getElem?_cons_succ, List.getElem?_cons_zero, bind_ok, e]
    simp [sgn, hc']) (cs.map sgn) 0 (fun d hd => by
    obtain ⟨c, hc, rfl⟩ := List.mem_map.mp hd
    exact ⟨c, h c hc, rfl⟩) (by simp; omega)
  simp only [List.replicate_zero] at hs
  simp [m_has_signs_only, runDef, b_has_signs_only, env0, iosAt, items_row, hs, all_true]
def chartD (rs : List (List Nat)) (srcs : List IP) : D := .ins "Chart" [(("rows" : String), .tup (rs.map rowD)), (("sources" : String), .tup (srcs.map Pu.pairD))]
theorem are_rows_ok {rs : List (List Nat)} {srcs : List IP} (g : GoodC rs srcs) : m_are_rows.run [.tup (rs.map rowD)] = .ok (.bl true) false [] := by
  obtain ⟨w, w1, w2, hw⟩ := g.w
  have hr1 := g.r1
  have hr2 := g.r2
  have e0 : rs[0]? = some rs[0] := List.getElem?_eq_getElem (by omega)
  have l0 : rs[0].length = w := (hw _ (List.getElem_mem (by omega))).1
  have h0 := ix_rowsT e0
  have h00 := lenD_row rs[0] (by omega)
  rw [l0] at h00
  have hs := lc_true (tg := gNm 2) (elt := q1_are_rows) (vs := [2]) (fun d => ∃ cs ∈ rs, d = rowD cs) [.val (.tup (rs.map rowD)), .val (.int (w : Nat)), .no] (fun d ⟨cs, hc, hd⟩ => by
    subst hd
    refine ⟨[.val (.tup (rs.map rowD)), .val (.int (w : Nat)), .val (rowD cs)], [.val (.tup (rs.map rowD)), .val (.int (w : Nat)), .val (rowD cs)], by simp, ?_, by simp⟩
    obtain ⟨c1, c2⟩ := hw cs hc
    have h2 := hso_ok c2 (by omega)
    have h3 := lenD_row cs (by omega)
    rw [c1] at h3
    simp [-lenD_str, q1_are_rows, h2, h3]) (rs.map rowD) 0 (fun d hd => by
    obtain ⟨c, hc, rfl⟩ := List.mem_map.mp hd
    exact ⟨c, hc, rfl⟩) (by simp; omega)
  simp only [List.replicate_zero] at hs
  have hit : itemsD (.tup (rs.map rowD)) = some (rs.map rowD) := rfl
  have i1 : (1 : Int) ≤ (rs.length : Int) := by omega
  have i2 : (rs.length : Int) ≤ 7 := by omega
  have i3 : (1 : Int) ≤ (w : Int) := by omega
  have i4 : (w : Int) ≤ 7 := by omega
  have h0' : ixD (.tup (rs.map rowD)) (.int 0) = some (rowD rs[0]) := h0
  simp [-ixD_tup, -lenD_str, m_are_rows, runDef, b_are_rows, env0, iosAt, i1, i2, i3, i4, h0', h00, hit, hs, all_true]

def strictB (ps : List IP) : Bool := decide (ps = sortL (undup ps))
theorem strictB_iff (ps : List IP) : strictB ps = true ↔ ps.Pairwise (fun p q => pLt p q = true) := by
  unfold strictB
  rw [decide_eq_true_iff]
  exact strict_iff ps
theorem asc_tup (ps : List IP) (h : ps.length < 64) : m_is_ascending.run [.tup (ps.map Pu.pairD)] = .ok (.bl (strictB ps)) false [] := by
  have h1 : sortSetD (.tup (ps.map Pu.pairD)) = some (.lst ((sortL (undup ps)).map Pu.pairD)) := by
    unfold sortSetD
    simp only [seqD, Option.bind_some, pairsD_map, if_pos h]
  simp [m_is_ascending, runDef, b_is_ascending, env0, iosAt, h1, strictB]
theorem asc_lst (ps : List IP) (h : ps.length < 64) : m_is_ascending.run [.lst (ps.map Pu.pairD)] = .ok (.bl (strictB ps)) false [] := by
  have h1 : sortSetD (.lst (ps.map Pu.pairD)) = some (.lst ((sortL (undup ps)).map Pu.pairD)) := by
    unfold sortSetD
    simp only [seqD, Option.bind_some, pairsD_map, if_pos h]
  simp [m_is_ascending, runDef, b_is_ascending, env0, iosAt, h1, strictB]
theorem inside_ok {rs : List (List Nat)} {srcs : List IP} (g : GoodC rs srcs) {p : IP} (hp : IsW rs p) : m_is_inside.run [.tup (rs.map rowD), Pu.pairD p] = .ok (.bl true) false [] := by
  obtain ⟨i, j, cs, c, rfl, hi, hj, hc⟩ := hp
  obtain ⟨w, w1, w2, hw⟩ := g.w
  have hr1 := g.r1
  have e0 : rs[0]? = some rs[0] := List.getElem?_eq_getElem (by omega)
  have l0 : rs[0].length = w := (hw _ (List.getElem_mem (by omega))).1
  have h0 : ixD (.tup (rs.map rowD)) (.int 0) = some (rowD rs[0]) := ix_rowsT e0
  have h00 := lenD_row rs[0] (by omega)
  rw [l0] at h00
  have hil := (List.getElem?_eq_some_iff.mp hi).1
  have hjl := (List.getElem?_eq_some_iff.mp hj).1
  have lw : cs.length = w := (hw cs (List.mem_of_getElem? hi)).1
  have c1 : (j : Int) < (w : Int) := by omega
  have c2 : (i : Int) < (rs.length : Int) := by omega
  simp [-ixD_tup, -lenD_str, m_is_inside, runDef, b_is_inside, env0, iosAt, Pu.pairD, h0, h00, c1, c2, hil]
theorem sign_ok {rs : List (List Nat)} {srcs : List IP} (g : GoodC rs srcs) {p : IP} (hp : IsW rs p) : m_has_sign.run [.tup (rs.map rowD), Pu.pairD p, .str (("123456789" : String) : Str)] = .ok (.bl true) false [] := by
  have hin := inside_ok g hp
  obtain ⟨i, j, cs, c, rfl, hi, hj, hc⟩ := hp
  obtain ⟨w, w1, w2, hw⟩ := g.w
  have lw : cs.length = w := (hw cs (List.mem_of_getElem? hi)).1
  have h1 := ix_rowsT hi
  have h2 := ix_row (by omega) hj
  have hc' : c ∈ (("123456789" : String) : Str).cps.toList := hc
  simp only [Pu.pairD] at hin
  simp [-ixD_tup, -ixD_str, m_has_sign, runDef, b_has_sign, env0, iosAt, Pu.pairD, hin, h1, h2, sgn, hc']
theorem are_sources_ok {rs : List (List Nat)} {srcs : List IP} (g : GoodC rs srcs) : m_are_sources.run [.tup (rs.map rowD), .tup (srcs.map Pu.pairD)] = .ok (.bl true) false [] := by
  have hs1 := g.s1
  have hs2 := g.s2
  have ha := asc_tup srcs (by omega)
  rw [(strictB_iff srcs).mpr g.asc] at ha
  have hs := lc_true (tg := gNm 2) (elt := q1_are_sources) (vs := [2]) (fun d => ∃ p, IsW rs p ∧ d = Pu.pairD p) [.val (.tup (rs.map rowD)), .val (.tup (srcs.map Pu.pairD)), .no] (fun d ⟨p, hp, hd⟩ => by
    subst hd
    refine ⟨[.val (.tup (rs.map rowD)), .val (.tup (srcs.map Pu.pairD)), .val (Pu.pairD p)], [.val (.tup (rs.map rowD)), .val (.tup (srcs.map Pu.pairD)), .val (Pu.pairD p)], by simp, ?_, by simp⟩
    have h2 := sign_ok g hp
    simp [q1_are_sources, h2]) (srcs.map Pu.pairD) 0 (fun d hd => by
    obtain ⟨p, hp, rfl⟩ := List.mem_map.mp hd
    exact ⟨p, g.wat p hp, rfl⟩) (by simp; omega)
  simp only [List.replicate_zero] at hs
  have hit : itemsD (.tup (srcs.map Pu.pairD)) = some (srcs.map Pu.pairD) := rfl
  have i1 : (1 : Int) ≤ (srcs.length : Int) := by omega
  have i2 : (srcs.length : Int) ≤ 6 := by omega
  simp [m_are_sources, runDef, b_are_sources, env0, iosAt, i1, i2, ha, hit, hs, all_true]
theorem init_ok {rs : List (List Nat)} {srcs : List IP} (g : GoodC rs srcs) : m_Chart_init.run [.ins "Chart" [], .tup (rs.map rowD), .tup (srcs.map Pu.pairD)] = .ok .non false [(0, chartD rs srcs)] := by
  have h1 := are_rows_ok g
  have h2 := are_sources_ok g
  have ne : ¬ ((("rows" : String) : Str) = (("sources" : String) : Str)) := by decide +kernel
  simp [m_Chart_init, runDef, b_Chart_init, env0, iosAt, h1, h2, putFD, ne, chartD]
/-! the same data -/
def same (n : Nat) (a b : D) : FRes := runDef [] 3 (b__law_same n) [a, b]
theorem dEq_strD (a b : Str) : dEq (.str a) (.str b) = some (.bl (decide (a = b))) := rfl
theorem same_str (n : Nat) (z : Str) : same (n + 1) (.str z) (.str z) = .ok (.bl true) false [] := by
  have h1 : isiD "tuple" (.str z) = some (.bl false) := rfl
  have h2 : isiD "bool" (.str z) = some (.bl false) := rfl
  have h3 : isiD "int" (.str z) = some (.bl false) := rfl
  have h4 : isiD "str" (.str z) = some (.bl true) := rfl
  simp [same, runDef, b__law_same, env0, iosAt, h1, h2, h3, h4, dEq_strD]
@[simp] theorem io_isint : m__law_is_integer.io = [] := rfl
theorem isint_run (i : Int) : m__law_is_integer.run [.int i] = .ok (.bl true) false [] := by
  have h2 : isiD "bool" (.int i) = some (.bl false) := rfl
  have h3 : isiD "int" (.int i) = some (.bl true) := rfl
  simp [m__law_is_integer, runDef, b__law_is_integer, env0, iosAt, h2, h3]
theorem same_int (n : Nat) (i : Int) : same (n + 1) (.int i) (.int i) = .ok (.bl true) false [] := by
  have h1 : isiD "tuple" (.int i) = some (.bl false) := rfl
  have h2 : isiD "bool" (.int i) = some (.bl false) := rfl
  have h3 : isiD "int" (.int i) = some (.bl true) := rfl
  have h5 := isint_run i
  simp [same, runDef, b__law_same, env0, iosAt, h1, h2, h3, h5]
theorem same_tup (n : Nat) (ds : List D) (hl : ds.length ≤ 900) (h : ∀ d ∈ ds, same n d d = .ok (.bl true) false []) : same (n + 1) (.tup ds) (.tup ds) = .ok (.bl true) false [] := by
  have h1 : isiD "tuple" (.tup ds) = some (.bl true) := rfl
  have hr := rng1_rr ds.length (by omega)
  have hs := lc_true (tg := gNm 2) (elt := (mCall 2 ⟨[], runDef [] 3 (b__law_same n)⟩ (aVal (eIxV 0 (eVar 2)) (aVal (eIxV 1 (eVar 2)) aNil)))) (vs := [2]) (fun d => ∃ i : Nat, i < ds.length ∧ d = .int (i : Nat)) [.val (.tup ds), .val (.tup ds), .no] (fun d ⟨i, hi, hd⟩ => by
    subst hd
    refine ⟨[.val (.tup ds), .val (.tup ds), .val (.int (i : Nat))], [.val (.tup ds), .val (.tup ds), .val (.int (i : Nat))], by simp, ?_, by simp⟩
    have h2 : ixD (.tup ds) (.int (i : Nat)) = some ds[i] := by
      rw [ixD_tup]
      exact atI_natD (List.getElem?_eq_getElem hi)
    have h3 := h ds[i] (List.getElem_mem hi)
    unfold same at h3
    simp [-ixD_tup, h2, h3]) (rr 0 ds.length) 0 (fun d hd => by
    rw [rr_eq] at hd
    obtain ⟨i, hi, rfl⟩ := List.mem_map.mp hd
    refine ⟨i, ?_, by rw [Int.zero_add]⟩
    have := List.mem_range'.mp hi
    omega) (by rw [rr_len]; omega)
  simp only [List.replicate_zero] at hs
  simp [same, runDef, b__law_same, env0, iosAt, h1, hr, hs, all_true]
theorem same_pair (n : Nat) (p : IP) : same (n + 2) (Pu.pairD p) (Pu.pairD p) = .ok (.bl true) false [] := by
  refine same_tup (n + 1) _ (by simp) fun d hd => ?_
  simp only [List.mem_cons, List.not_mem_nil, or_false] at hd
  rcases hd with rfl | rfl
  · exact same_int n _
  · exact same_int n _
theorem same_rows (rs : List (List Nat)) (h : rs.length ≤ 900) : m__law_same.run [.tup (rs.map rowD), .tup (rs.map rowD)] = .ok (.bl true) false [] := by
  refine same_tup 7 _ (by simpa using h) fun d hd => ?_
  obtain ⟨cs, _, rfl⟩ := List.mem_map.mp hd
  exact same_str 6 _
theorem same_srcs (ps : List IP) (h : ps.length ≤ 900) : m__law_same.run [.tup (ps.map Pu.pairD), .tup (ps.map Pu.pairD)] = .ok (.bl true) false [] := by
  refine same_tup 7 _ (by simpa using h) fun d hd => ?_
  obtain ⟨p, _, rfl⟩ := List.mem_map.mp hd
  exact same_pair 5 p
@[simp] theorem io_places : m__law_places.io = [] := rfl
@[simp] theorem io_places0 : m__law_places_io0.io = [0] := rfl
@[simp] theorem io_chart : m__law_chart.io = [] := rfl
@[simp] theorem io_lsame : m__law_same.io = [] := rfl
@[simp] theorem io_isw : m_is_water.io = [] := rfl
@[simp] theorem io_bes : m_beside.io = [] := rfl
@[simp] theorem io_wbs : m_water_beside.io = [] := rfl
@[simp] theorem io_crm : m_crossing_minutes.io = [] := rfl
@[simp] theorem io_stm : m_step_minutes.io = [] := rfl
@[simp] theorem io_rct : m_reached_times.io = [] := rfl
@[simp] theorem io_lnear : m__law_near.io = [] := rfl
@[simp] theorem io_lmin : m__law_minutes.io = [] := rfl
@[simp] theorem io_lwav : m__law_waves.io = [] := rfl
theorem srcs_ok (ds : List Int) (a b c e f g x7 x8 x9 x10 x11 x12 x13 : Sl) (ws : List IP) (p : Nat) (h : ws.Pairwise (fun p q => pLt p q = true)) (h0 : ws ≠ []) : ∃ (ps : List IP) (p' : Nat) (z' : Sl) (srcs : List IP), srcs.Pairwise (fun p q => pLt p q = true) ∧ 1 ≤ srcs.length ∧ srcs.length ≤ 4 ∧ (∀ q ∈ srcs, q ∈ ws) ∧
      forL (gNm 15) p3__law_chart (ws.map Pu.pairD) [a, b, c, .own (boxD ds p), e, f, g, x7, x8, x9, x10, x11, x12, x13, .own (.lst []), .no] = .ok .nx [a, b, c, .own (boxD ds p'), e, f, g, x7, x8, x9, x10, x11, x12, x13, .own (.lst (ps.map Pu.pairD)), z'] ∧
      ((ps = [] ∧ ∃ (i : Int) (s : IP), m__law_draw.run [boxD ds p', .int (ws.length : Nat)] = .ok (.int i) false [(0, boxD ds (p' + 1))] ∧ ixD (.lst (ws.map Pu.pairD)) (.int i) = some (Pu.pairD s) ∧ srcs = [s]) ∨ (ps ≠ [] ∧ srcs = ps)) := by
  obtain ⟨ps, p', z', i1, i2, i3, i4⟩ := srcLoop ds a b c e f g x7 x8 x9 x10 x11 x12 x13 ws [] p .no h List.Pairwise.nil (by simp) (by simp)
  have hl : 0 < ws.length := List.length_pos_iff.mpr h0
  by_cases c0 : ps = []
  · obtain ⟨i, k0, k1, hk⟩ := draw_ok ds p' (many := (ws.length : Nat)) (by omega)
    have hi : i.toNat < ws.length := by omega
    refine ⟨ps, p', z', [ws[i.toNat]], List.pairwise_singleton _ _, by simp, by simp, fun q hq => ?_, i4, .inl ⟨c0, i, ws[i.toNat], hk, ?_, rfl⟩⟩
    · rw [List.mem_singleton.mp hq]; exact List.getElem_mem hi
    · obtain ⟨j, rfl⟩ : ∃ j : Nat, i = (j : Int) := ⟨i.toNat, by omega⟩
      rw [ixD_lst]
      refine atI_natD ?_
      rw [List.getElem?_map, List.getElem?_eq_getElem (by simpa using hi)]
      rfl
  · refine ⟨ps, p', z', ps, i1, List.length_pos_iff.mpr c0, i2, fun q hq => ?_, i4, .inr ⟨c0, rfl⟩⟩
    rcases i3 q hq with z | z
    · cases z
    · exact z
theorem chart_ok (ns : List Int) (f A : Nat) (hA : 1 ≤ A ∧ A ≤ 7) : ∃ rs srcs, GoodC rs srcs ∧ srcs.length ≤ 4 ∧ rs.length ≤ A ∧ (∀ cs ∈ rs, cs.length ≤ A) ∧ m__law_chart.run [.scr ns, .int (f : Nat), .int (A : Nat)] = .ok (partsD rs srcs) false [] := by
  obtain ⟨ds, hbox⟩ := box_ok ns f
  obtain ⟨d1, a1, b1, h1⟩ := draw_ok ds 0 (many := (A : Nat)) (by omega)
  obtain ⟨d2, a2, b2, h2⟩ := draw_ok ds (0 + 1) (many := (A : Nat)) (by omega)
  obtain ⟨h, eh⟩ : ∃ h : Nat, 1 + d1 = (h : Int) := ⟨(1 + d1).toNat, by omega⟩
  obtain ⟨w, ew⟩ : ∃ w : Nat, 1 + d2 = (w : Int) := ⟨(1 + d2).toNat, by omega⟩
  obtain ⟨rs, z7, z8, z9, z10, z11, z12, l1, l2, hrows⟩ := rowLoop ns f w (by omega) (.val (.int (A : Nat))) (.own (boxD ds (0 + 1 + 1))) (.val (.int (h : Nat))) .no .no .no h 0 [] .no .no .no .no .no .no (by simp; omega) (fun _ q => by cases q)
  simp only [List.length_nil, Nat.zero_add] at l1
  have hr := rng1_rr h (by omega)
  have hRl : ∀ rs : List (List Nat), lenD (.lst (rs.map rowD)) = some (.int (rs.length : Nat)) := fun rs => by
    show some (D.int (((rs.map rowD).length : Nat))) = _
    rw [List.length_map]
  obtain ⟨ws, w1, w2, w3, hw⟩ := places_io (R := .lst (rs.map rowD)) (("123456789" : String) : Str) (rs := rs) (w := w) (fun _ _ h => ix_rows h) (hRl rs) (fun cs hcs => (l2 cs hcs).1) (by omega) (by omega)
  have hit : ∀ ws : List IP, itemsD (.lst (ws.map Pu.pairD)) = some (ws.map Pu.pairD) := fun _ => rfl
  simp only [List.map_nil] at hrows
  cases ws with
  | nil =>
    have hi : 0 < rs.length := by omega
    have e0 : rs[0]? = some rs[0] := List.getElem?_eq_getElem hi
    obtain ⟨lw, lg⟩ := l2 rs[0] (List.getElem_mem hi)
    have hix : ixD (.lst (rs.map rowD)) (.int 0) = some (rowD rs[0]) := ix_rows e0
    have hhi : slD (rowD rs[0]) (some (1 : Int)) none = some (rowD (rs[0].drop 1)) := sl_hi (cs := rs[0]) (j := 1) (by omega) (by omega)
    have hdl : (rs[0].drop 1).length + 1 = w := by rw [List.length_drop]; omega
    have hdg : ∀ c ∈ rs[0].drop 1, Gd c := fun c hc => lg c (List.mem_of_mem_drop hc)
    generalize rs[0].drop 1 = dr at hhi hdl hdg
    have e1 : D.str (("1" : String) : Str) = rowD [49] := by
      have : (("1" : String) : Str) = (⟨#[49]⟩ : Str) := by decide +kernel
      rw [this]
      rfl
    have ha1 : aAdd (rowD [49]) (rowD dr) = some (rowD (49 :: dr)) := add_rows (a := [49]) (b := dr) (by simp; omega)
    have hput : setD (.lst (rs.map rowD)) (.int 0) (rowD (49 :: dr)) = some (.lst ((rs.set 0 (49 :: dr)).map rowD)) := by
      rw [setD_lst]
      have e : ixN (rs.map rowD).length 0 = some 0 := by
        unfold ixN
        simp [hi]
      rw [e]
      simp [List.map_set]
    have g49 : Wt 49 := by unfold Wt; decide +kernel
    have hlen : ∀ cs ∈ rs.set 0 (49 :: dr), cs.length = w ∧ ∀ c ∈ cs, Gd c := fun cs hcs => by
      rcases List.mem_or_eq_of_mem_set hcs with q | q
      · exact l2 cs q
      · rw [q]
        refine ⟨by simp; omega, fun c hc => ?_⟩
        rcases List.mem_cons.mp hc with r | r
        · rw [r]; exact g49.gd
        · exact hdg c r
    have hW : IsW (rs.set 0 (49 :: dr)) (0, 0) := ⟨0, 0, 49 :: dr, 49, rfl, by simp [hi], rfl, g49⟩
    generalize hrs' : rs.set 0 (49 :: dr) = rs' at hput hlen hW
    have lrs' : rs'.length = rs.length := by rw [← hrs']; simp
    obtain ⟨ps, p', z', srcs, s1, s2, s3, s4, hsrc, hend⟩ := srcs_ok ds (.val (.scr ns)) (.val (.int (f : Nat))) (.val (.int (A : Nat))) (.val (.int (h : Nat))) (.val (.int (w : Nat))) (.own (.lst (rs'.map rowD))) z7 z8 z9 z10 z11 z12 (.val (.lst ([((0 : Int), (0 : Int))].map Pu.pairD))) [(0, 0)] (0 + 1 + 1) (List.pairwise_singleton _ _) (by simp)
    refine ⟨rs', srcs, ⟨by omega, by omega, ⟨w, by omega, by omega, hlen⟩, s2, by omega, s1, fun p hp => ?_⟩, s3, by omega, fun cs hcs => by rw [(hlen cs hcs).1]; omega, ?_⟩
    · rw [List.mem_singleton.mp (s4 p hp)]; exact hW
    · have hsz : ([((0 : Int), (0 : Int))].map Pu.pairD) = [D.tup [.int 0, .int 0]] := rfl
      rw [hsz] at hsrc hend
      have hi1 : itemsD (.lst [D.tup [.int 0, .int 0]]) = some [D.tup [.int 0, .int 0]] := rfl
      rcases hend with ⟨rfl, i, s, k1, k2, rfl⟩ | ⟨k0, rfl⟩
      · simp only [List.length_singleton, List.map_nil] at k1 hsrc
        have k1 : m__law_draw.run [boxD ds p', .int 1] = _ := k1
        simp [-Int.natCast_add, -ixD_lst, -ixD_str, -ixD_tup, -setD_lst, -List.map_set, m__law_chart, runDef, b__law_chart, env0, iosAt, hbox, h1, h2, eh, ew, hr, hrows, hw, hix, hhi, e1, ha1, hput, hi1, hsrc, k1, k2, partsD, big]
      · have k3 : ¬ ((srcs.length : Int) = 0) := by
          have := List.length_pos_iff.mpr k0
          omega
        simp [-Int.natCast_add, -ixD_lst, -ixD_str, -ixD_tup, -setD_lst, -List.map_set, m__law_chart, runDef, b__law_chart, env0, iosAt, hbox, h1, h2, eh, ew, hr, hrows, hw, hix, hhi, e1, ha1, hput, hi1, hsrc, k0, k3, partsD, big]
  | cons w0 ws0 =>
    obtain ⟨ps, p', z', srcs, s1, s2, s3, s4, hsrc, hend⟩ := srcs_ok ds (.val (.scr ns)) (.val (.int (f : Nat))) (.val (.int (A : Nat))) (.val (.int (h : Nat))) (.val (.int (w : Nat))) (.own (.lst (rs.map rowD))) z7 z8 z9 z10 z11 z12 (.val (.lst ((w0 :: ws0).map Pu.pairD))) (w0 :: ws0) (0 + 1 + 1) w1 (by simp)
    refine ⟨rs, srcs, ⟨by omega, by omega, ⟨w, by omega, by omega, l2⟩, s2, by omega, s1, fun p hp => ?_⟩, s3, by omega, fun cs hcs => by rw [(l2 cs hcs).1]; omega, ?_⟩
    · exact (w2 p).mp (s4 p hp)
    · have k4 : ¬ (((w0 :: ws0).length : Int) = 0) := by
        rw [List.length_cons]
        omega
      generalize w0 :: ws0 = ws at hw hsrc hend k4
      have k5 := hit ws
      rcases hend with ⟨rfl, i, s, k1, k2, rfl⟩ | ⟨k0, rfl⟩
      · simp only [List.map_nil] at hsrc
        have k4' : ¬ ws = [] := fun z => k4 (by rw [z]; rfl)
        simp [-Int.natCast_add, -ixD_lst, -ixD_str, -ixD_tup, -setD_lst, -List.map_set, m__law_chart, runDef, b__law_chart, env0, iosAt, hbox, h1, h2, eh, ew, hr, hrows, hw, k4, k4', k5, hsrc, k1, k2, partsD, big]
      · have k3 : ¬ ((srcs.length : Int) = 0) := by
          have := List.length_pos_iff.mpr k0
          omega
        have k4' : ¬ ws = [] := fun z => k4 (by rw [z]; rfl)
        simp [-Int.natCast_add, -ixD_lst, -ixD_str, -ixD_tup, -setD_lst, -List.map_set, m__law_chart, runDef, b__law_chart, env0, iosAt, hbox, h1, h2, eh, ew, hr, hrows, hw, k4, k4', k5, hsrc, k0, k3, partsD, big]
end P_k27
namespace P_k27
open PySem PySem.Spec L2 Pu
open PyProof.Rows hiding St
def insB (rs : List (List Nat)) (w : Nat) (p : IP) : Bool := (decide (0 ≤ p.1) && decide (p.1 < (rs.length : Int))) && (decide (0 ≤ p.2) && decide (p.2 < (w : Int)))
def signAt (rs : List (List Nat)) (p : IP) : Nat := ((rs[p.1.toNat]?).getD []).getD p.2.toNat 0
def sgB (z : Str) (rs : List (List Nat)) (w : Nat) (p : IP) : Bool := insB rs w p && decide (signAt rs p ∈ z.cps.toList)
structure Wd (rs : List (List Nat)) (w : Nat) : Prop where
  pos : 1 ≤ rs.length
  all : ∀ cs ∈ rs, cs.length = w
  w7 : w ≤ 7
theorem GoodC.wd {rs : List (List Nat)} {srcs : List IP} (g : GoodC rs srcs) : ∃ w, Wd rs w := by
  obtain ⟨w, w1, w2, hw⟩ := g.w
  exact ⟨w, g.r1, fun cs h => (hw cs h).1, w2⟩
theorem at_in {rs : List (List Nat)} {w : Nat} (g : Wd rs w) {p : IP} (h : insB rs w p = true) : ∃ (i j : Nat) (cs : List Nat), p = ((i : Int), (j : Int)) ∧ rs[i]? = some cs ∧ cs[j]? = some (signAt rs p) := by
  unfold insB at h
  simp only [Bool.and_eq_true, decide_eq_true_eq] at h
  obtain ⟨⟨h1, h2⟩, h3, h4⟩ := h
  have hi : p.1.toNat < rs.length := by omega
  have ei : rs[p.1.toNat]? = some rs[p.1.toNat] := List.getElem?_eq_getElem hi
  have hl := g.all _ (List.getElem_mem hi)
  have hj : p.2.toNat < (rs[p.1.toNat]).length := by omega
  refine ⟨p.1.toNat, p.2.toNat, rs[p.1.toNat], Prod.ext (by simp; omega) (by simp; omega), ei, ?_⟩
  unfold signAt
  rw [ei, List.getElem?_eq_getElem hj]
  simp [List.getD, List.getElem?_eq_getElem hj]
theorem row0 {rs : List (List Nat)} {w : Nat} (g : Wd rs w) : ∃ r0, ixD (.tup (rs.map rowD)) (.int 0) = some r0 ∧ lenD r0 = some (.int (w : Nat)) := by
  have hp := g.pos
  have e0 : rs[0]? = some rs[0] := List.getElem?_eq_getElem (by omega)
  have l0 : rs[0].length = w := g.all _ (List.getElem_mem (by omega))
  have := lenD_row rs[0] (by have := g.w7; omega)
  rw [l0] at this
  exact ⟨_, ix_rowsT e0, this⟩
theorem inside_run {rs : List (List Nat)} {w : Nat} (g : Wd rs w) (p : IP) : m_is_inside.run [.tup (rs.map rowD), Pu.pairD p] = .ok (.bl (insB rs w p)) false [] := by
  obtain ⟨r0, h0, h00⟩ := row0 g
  obtain ⟨x, y⟩ := p
  unfold insB
  by_cases a1 : 0 ≤ x <;> by_cases a2 : x < (rs.length : Int) <;> by_cases b1 : 0 ≤ y <;> by_cases b2 : y < (w : Int) <;>
    simp [-ixD_tup, -lenD_str, m_is_inside, runDef, b_is_inside, env0, iosAt, Pu.pairD, h0, h00, a1, a2, b1, b2]
theorem sign_run {rs : List (List Nat)} {w : Nat} (g : Wd rs w) (z : Str) (p : IP) : m_has_sign.run [.tup (rs.map rowD), Pu.pairD p, .str z] = .ok (.bl (sgB z rs w p)) false [] := by
  have hin := inside_run g p
  unfold sgB
  cases c : insB rs w p with
  | false =>
    rw [c] at hin
    obtain ⟨x, y⟩ := p
    simp only [Pu.pairD] at hin
    simp [m_has_sign, runDef, b_has_sign, env0, iosAt, Pu.pairD, hin]
  | true =>
    rw [c] at hin
    obtain ⟨i, j, cs, rfl, hi, hj⟩ := at_in g c
    have lw : cs.length = w := g.all cs (List.mem_of_getElem? hi)
    have h1 := ix_rowsT hi
    have h2 := ix_row (by have := g.w7; omega) hj
    simp only [Pu.pairD] at hin
    simp [-ixD_tup, -ixD_str, m_has_sign, runDef, b_has_sign, env0, iosAt, Pu.pairD, hin, h1, h2, sgn]
theorem fld_rows (rs : List (List Nat)) (srcs : List IP) : getF [(("rows" : String), D.tup (rs.map rowD)), (("sources" : String), .tup (srcs.map Pu.pairD))] (("rows" : String) : Str) = some (.tup (rs.map rowD)) := by
  unfold getF
  simp [List.lookup]
def zW : Str := (("123456789" : String) : Str)
theorem is_water_run {rs : List (List Nat)} {w : Nat} (g : Wd rs w) (srcs : List IP) (p : IP) : m_is_water.run [chartD rs srcs, Pu.pairD p] = .ok (.bl (sgB zW rs w p)) false [] := by
  have h1 := sign_run g (("123456789" : String) : Str) p
  have h2 := fld_rows rs srcs
  have e : zW = (("123456789" : String) : Str) := rfl
  rw [e]
  simp [m_is_water, runDef, b_is_water, env0, iosAt, chartD, h1, h2]
def ar (p : IP) : List IP := [(p.1 - 1, p.2), (p.1, p.2 - 1), (p.1, p.2 + 1), (p.1 + 1, p.2)]
def wtr (rs : List (List Nat)) (w : Nat) (p : IP) : Bool := sgB zW rs w p
def nbs (rs : List (List Nat)) (w : Nat) (p : IP) : List IP := (ar p).filter (wtr rs w)
def dg (rs : List (List Nat)) (w : Nat) (p : IP) : Int := if wtr rs w p = true then (signAt rs p : Int) - 48 else 0
def stp (rs : List (List Nat)) (w : Nat) (p q : IP) : Int := dg rs w p + dg rs w q
theorem lc_filter {tg : MG} {tst : M Bool} {elt : M D} {vs : List Nat} (β : IP → Bool) (E : En) (hs : ∀ p, ∃ e1 e2 e3, tg (Pu.pairD p) E = some e1 ∧ tst e1 = .ok (β p) e2 ∧ elt e2 = .ok (Pu.pairD p) e3 ∧ wipeE e3 vs = E ∧ wipeE e2 vs = E) :
    ∀ (ps acc : List IP), acc.length + ps.length ≤ 1000 → lcL tg tst elt vs (ps.map Pu.pairD) (acc.map Pu.pairD) E = .ok (.lst ((acc ++ ps.filter β).map Pu.pairD)) E
  | [], acc, _ => by simp [lcL]
  | p :: ps, acc, hl => by
    obtain ⟨e1, e2, e3, h1, h2, h3, h4, h5⟩ := hs p
    have hb : acc.length < big := by simp at hl; unfold big; omega
    cases c : β p with
    | true =>
      have ih := lc_filter β E hs ps (acc ++ [p]) (by simp at hl ⊢; omega)
      have e : acc ++ (p :: ps).filter β = acc ++ [p] ++ ps.filter β := by simp [c]
      rw [e, ← ih]
      rw [c] at h2
      simp [lcL, h1, h2, h3, Out.nox, hb, h4]
    | false =>
      have ih := lc_filter β E hs ps acc (by simp at hl ⊢; omega)
      have e : (p :: ps).filter β = ps.filter β := by simp [c]
      rw [e, ← ih]
      rw [c] at h2
      simp [lcL, h1, h2, Out.nox, h5]
theorem beside_run {rs : List (List Nat)} {w : Nat} (g : Wd rs w) (srcs : List IP) (p : IP) : m_beside.run [chartD rs srcs, Pu.pairD p] = .ok (.tup (((ar p).filter (insB rs w)).map Pu.pairD)) false [] := by
  obtain ⟨r, c⟩ := p
  have h2 := fld_rows rs srcs
  have hs := lc_filter (tg := gNm 5) (tst := (tTru (mCall 2 m_is_inside (aVal (eFldC "Chart" "rows" (bVar 0)) (aVal (eVar 5) aNil))))) (elt := eVar 5) (vs := [5]) (insB rs w) [.val (chartD rs srcs), .val (Pu.pairD (r, c)), .val (.int r), .val (.int c), .val (.tup ((ar (r, c)).map Pu.pairD)), .no] (fun p => by
    have h1 := inside_run g p
    refine ⟨[.val (chartD rs srcs), .val (Pu.pairD (r, c)), .val (.int r), .val (.int c), .val (.tup ((ar (r, c)).map Pu.pairD)), .val (Pu.pairD p)], [.val (chartD rs srcs), .val (Pu.pairD (r, c)), .val (.int r), .val (.int c), .val (.tup ((ar (r, c)).map Pu.pairD)), .val (Pu.pairD p)], [.val (chartD rs srcs), .val (Pu.pairD (r, c)), .val (.int r), .val (.int c), .val (.tup ((ar (r, c)).map Pu.pairD)), .val (Pu.pairD p)], by simp, ?_, by simp, by simp, by simp⟩
    simp [chartD, h2, h1]) (ar (r, c)) [] (by simp [ar])
  simp only [List.map_nil, List.nil_append] at hs
  have ea : D.tup [.tup [.int (r - 1), .int c], .tup [.int r, .int (c - 1)], .tup [.int r, .int (c + 1)], .tup [.int (r + 1), .int c]] = .tup ((ar (r, c)).map Pu.pairD) := rfl
  have ei : itemsD (.tup ((ar (r, c)).map Pu.pairD)) = some ((ar (r, c)).map Pu.pairD) := rfl
  have ep : Pu.pairD (r, c) = .tup [.int r, .int c] := rfl
  rw [ep] at hs ⊢
  generalize (ar (r, c)).map Pu.pairD = A at hs ea ei
  simp [-List.map_cons, m_beside, runDef, b_beside, env0, iosAt, ea, ei, hs, big]
theorem ins_wtr {rs : List (List Nat)} {w : Nat} {p : IP} (h : wtr rs w p = true) : insB rs w p = true := by
  unfold wtr sgB at h
  exact (Bool.and_eq_true_iff.mp h).1
theorem filter_wtr (rs : List (List Nat)) (w : Nat) (ps : List IP) : (ps.filter (insB rs w)).filter (wtr rs w) = ps.filter (wtr rs w) := by
  rw [List.filter_filter]
  refine List.filter_congr fun p _ => ?_
  cases c : wtr rs w p with
  | false => rfl
  | true => rw [ins_wtr c]; rfl
theorem wb_run {rs : List (List Nat)} {w : Nat} (g : Wd rs w) (srcs : List IP) (p : IP) : m_water_beside.run [chartD rs srcs, Pu.pairD p] = .ok (.lst ((nbs rs w p).map Pu.pairD)) true [] := by
  have h1 := beside_run g srcs p
  have hs := lc_filter (tg := gNm 2) (tst := (tTru (mCall 2 m_is_water (aVal (eVar 0) (aVal (eVar 2) aNil))))) (elt := eVar 2) (vs := [2]) (wtr rs w) [.val (chartD rs srcs), .val (Pu.pairD p), .no] (fun q => by
    have h1 := is_water_run g srcs q
    refine ⟨[.val (chartD rs srcs), .val (Pu.pairD p), .val (Pu.pairD q)], [.val (chartD rs srcs), .val (Pu.pairD p), .val (Pu.pairD q)], [.val (chartD rs srcs), .val (Pu.pairD p), .val (Pu.pairD q)], by simp, ?_, by simp, by simp, by simp⟩
    simp [h1, wtr]) ((ar p).filter (insB rs w)) [] (by
      have := List.length_filter_le (insB rs w) (ar p)
      have e : (ar p).length = 4 := rfl
      simp
      omega)
  simp only [List.map_nil, List.nil_append, filter_wtr] at hs
  have ei : itemsD (.tup (((ar p).filter (insB rs w)).map Pu.pairD)) = some (((ar p).filter (insB rs w)).map Pu.pairD) := rfl
  unfold nbs
  simp [m_water_beside, runDef, b_water_beside, env0, iosAt, h1, ei, hs]
theorem digit_ok {c : Nat} (h : Wt c) : intD (sgn c) = some (.int ((c : Int) - 48)) ∧ 1 ≤ (c : Int) - 48 := by
  have k : ∀ c ∈ (("123456789" : String) : Str).cps.toList, PySem.intText? ⟨#[c]⟩ = some ((c : Int) - 48) ∧ 1 ≤ (c : Int) - 48 := by decide +kernel
  obtain ⟨k1, k2⟩ := k c h
  refine ⟨?_, k2⟩
  show (if (⟨#[c]⟩ : Str).length ≤ 640 then (PySem.intText? ⟨#[c]⟩).map D.int else none) = _
  have : (⟨#[c]⟩ : Str).length = 1 := rfl
  rw [this, if_pos (by decide), k1]
  rfl
theorem wtr_at {rs : List (List Nat)} {w : Nat} (g : Wd rs w) {p : IP} (h : wtr rs w p = true) : ∃ (i j : Nat) (cs : List Nat), p = ((i : Int), (j : Int)) ∧ rs[i]? = some cs ∧ cs[j]? = some (signAt rs p) ∧ cs.length ≤ 1000 ∧ Wt (signAt rs p) := by
  obtain ⟨i, j, cs, e, h1, h2⟩ := at_in g (ins_wtr h)
  refine ⟨i, j, cs, e, h1, h2, ?_, ?_⟩
  · have := g.all cs (List.mem_of_getElem? h1)
    have := g.w7
    omega
  · unfold wtr sgB at h
    exact of_decide_eq_true (Bool.and_eq_true_iff.mp h).2
theorem dg_pos {rs : List (List Nat)} {w : Nat} (g : Wd rs w) {p : IP} (h : wtr rs w p = true) : 1 ≤ dg rs w p := by
  obtain ⟨_, _, _, _, _, _, _, hw⟩ := wtr_at g h
  unfold dg
  rw [if_pos h]
  exact (digit_ok hw).2
theorem dg_nn {rs : List (List Nat)} {w : Nat} (g : Wd rs w) (p : IP) : 0 ≤ dg rs w p := by
  cases c : wtr rs w p with
  | true => have := dg_pos g c; omega
  | false => unfold dg; rw [c]; simp
theorem stp_pos {rs : List (List Nat)} {w : Nat} (g : Wd rs w) (p q : IP) (h : q ∈ nbs rs w p) : 1 ≤ stp rs w p q := by
  have h1 := dg_nn g p
  have h2 := dg_pos g (List.mem_filter.mp h).2
  unfold stp
  omega
theorem cross_run {rs : List (List Nat)} {w : Nat} (g : Wd rs w) (srcs : List IP) {p : IP} (h : wtr rs w p = true) : m_crossing_minutes.run [chartD rs srcs, Pu.pairD p] = .ok (.int (dg rs w p)) false [] := by
  obtain ⟨i, j, cs, e, h1, h2, h3, hw⟩ := wtr_at g h
  have k1 := fld_rows rs srcs
  have k2 := ix_rowsT h1
  have k3 := ix_row h3 h2
  have k4 := (digit_ok hw).1
  unfold dg
  rw [if_pos h]
  generalize signAt rs p = c at *
  subst e
  simp [-ixD_tup, -ixD_str, m_crossing_minutes, runDef, b_crossing_minutes, env0, iosAt, Pu.pairD, chartD, k1, k2, k3, k4]
theorem step_run {rs : List (List Nat)} {w : Nat} (g : Wd rs w) (srcs : List IP) {p q : IP} (hp : wtr rs w p = true) (hq : wtr rs w q = true) : m_step_minutes.run [chartD rs srcs, Pu.pairD p, Pu.pairD q] = .ok (.int (stp rs w p q)) false [] := by
  have h1 := cross_run g srcs hp
  have h2 := cross_run g srcs hq
  simp [m_step_minutes, runDef, b_step_minutes, env0, iosAt, h1, h2, stp]
/-! all cells -/
def cellsR (w : Nat) : Nat → List IP
  | 0 => []
  | n + 1 => cellsR w n ++ (List.range w).map fun (j : Nat) => ((n : Int), (j : Int))
theorem cellsR_len (w : Nat) : ∀ n, (cellsR w n).length = n * w
  | 0 => by simp [cellsR]
  | n + 1 => by rw [cellsR, List.length_append, cellsR_len w n, List.length_map, List.length_range, Nat.succ_mul]
theorem cellsR_mem (w : Nat) {i j : Nat} (hj : j < w) : ∀ n, i < n → ((i : Int), (j : Int)) ∈ cellsR w n
  | 0, h => absurd h (Nat.not_lt_zero _)
  | n + 1, h => by
    rw [cellsR, List.mem_append]
    by_cases c : i = n
    · subst c
      exact .inr (List.mem_map.mpr ⟨j, List.mem_range.mpr hj, rfl⟩)
    · exact .inl (cellsR_mem w hj n (by omega))
def cells (rs : List (List Nat)) (w : Nat) : List IP := cellsR w rs.length
theorem wtr_in {rs : List (List Nat)} {w : Nat} (g : Wd rs w) {p : IP} (h : wtr rs w p = true) : p ∈ cells rs w := by
  obtain ⟨i, j, cs, e, h1, h2, _, _⟩ := wtr_at g h
  rw [e]
  have := (List.getElem?_eq_some_iff.mp h1).1
  have l := (List.getElem?_eq_some_iff.mp h2).1
  rw [g.all cs (List.mem_of_getElem? h1)] at l
  exact cellsR_mem w l _ this
theorem nbs_in {rs : List (List Nat)} {w : Nat} (g : Wd rs w) (p q : IP) (h : q ∈ nbs rs w p) : q ∈ cells rs w := wtr_in g (List.mem_filter.mp h).2
theorem nbs_len (rs : List (List Nat)) (w : Nat) (p : IP) : (nbs rs w p).length ≤ 4 := List.length_filter_le _ _
theorem IsW.wtr {rs : List (List Nat)} {w : Nat} (g : Wd rs w) {p : IP} (h : IsW rs p) : wtr rs w p = true := by
  obtain ⟨i, j, cs, c, rfl, hi, hj, hc⟩ := h
  have hil := (List.getElem?_eq_some_iff.mp hi).1
  have hjl := (List.getElem?_eq_some_iff.mp hj).1
  have lw := g.all cs (List.mem_of_getElem? hi)
  have e : signAt rs ((i : Int), (j : Int)) = c := by
    unfold signAt
    simp [hi, List.getD, hj]
  unfold P_k27.wtr sgB insB
  rw [e]
  simp only [Bool.and_eq_true, decide_eq_true_eq]
  exact ⟨⟨⟨by omega, by show (i : Int) < _; omega⟩, by omega, by show (j : Int) < _; omega⟩, hc⟩
/-! the law's own steps -/
theorem nearLoop {rs : List (List Nat)} {w : Nat} (g : Wd rs w) (p : IP) : ∀ (ms acc : List IP) (y3 y4 : Sl), acc.length + ms.length ≤ 1000 →
    ∃ y3' y4', forL (gNm 3) p1__law_near (ms.map Pu.pairD) [.val (.tup (rs.map rowD)), .val (Pu.pairD p), .own (.lst (acc.map Pu.pairD)), y3, y4] = .ok .nx [.val (.tup (rs.map rowD)), .val (Pu.pairD p), .own (.lst ((acc ++ (ms.map fun m => (p.1 + m.1, p.2 + m.2)).filter (insB rs w)).map Pu.pairD)), y3', y4']
  | [], acc, y3, y4, _ => ⟨y3, y4, by simp [forL]⟩
  | m :: ms, acc, y3, y4, hl => by
    obtain ⟨r0, h0, h00⟩ := row0 g
    have p0 : ∀ p : IP, ixD (Pu.pairD p) (.int 0) = some (.int p.1) := fun _ => rfl
    have p1 : ∀ p : IP, ixD (Pu.pairD p) (.int 1) = some (.int p.2) := fun _ => rfl
    have e0 : D.tup [.int (p.1 + m.1), .int (p.2 + m.2)] = Pu.pairD (p.1 + m.1, p.2 + m.2) := rfl
    have hb : acc.length < 1000000 := by simp at hl; omega
    cases c : insB rs w (p.1 + m.1, p.2 + m.2) with
    | true =>
      obtain ⟨y3', y4', ih⟩ := nearLoop g p ms (acc ++ [(p.1 + m.1, p.2 + m.2)]) (.val (Pu.pairD m)) (.val (Pu.pairD (p.1 + m.1, p.2 + m.2))) (by simp at hl ⊢; omega)
      refine ⟨y3', y4', ?_⟩
      have e : acc ++ ((m :: ms).map fun m => (p.1 + m.1, p.2 + m.2)).filter (insB rs w) = acc ++ [(p.1 + m.1, p.2 + m.2)] ++ (ms.map fun m => (p.1 + m.1, p.2 + m.2)).filter (insB rs w) := by simp [c]
      rw [e, ← ih]
      unfold insB at c
      simp only [Bool.and_eq_true, decide_eq_true_eq] at c
      obtain ⟨⟨c1, c2⟩, c3, c4⟩ := c
      simp [-ixD_tup, -lenD_str, forL, p1__law_near, p0, p1, e0, h0, h00, c1, c2, c3, c4, hb, big]
    | false =>
      obtain ⟨y3', y4', ih⟩ := nearLoop g p ms acc (.val (Pu.pairD m)) (.val (Pu.pairD (p.1 + m.1, p.2 + m.2))) (by simp at hl ⊢; omega)
      refine ⟨y3', y4', ?_⟩
      have e : ((m :: ms).map fun m => (p.1 + m.1, p.2 + m.2)).filter (insB rs w) = (ms.map fun m => (p.1 + m.1, p.2 + m.2)).filter (insB rs w) := by simp [c]
      rw [e, ← ih]
      by_cases c1 : 0 ≤ p.1 + m.1
      · by_cases c2 : p.1 + m.1 < (rs.length : Int)
        · by_cases c3 : 0 ≤ p.2 + m.2
          · by_cases c4 : p.2 + m.2 < (w : Int)
            · exfalso
              unfold insB at c
              simp [c1, c2, c3, c4] at c
            · simp [-ixD_tup, -lenD_str, forL, p1__law_near, p0, p1, e0, h0, h00, c1, c2, c3, c4, hb, big]
          · simp [-ixD_tup, -lenD_str, forL, p1__law_near, p0, p1, e0, h0, h00, c1, c2, c3, hb, big]
        · simp [-ixD_tup, -lenD_str, forL, p1__law_near, p0, p1, e0, h0, h00, c1, c2, hb, big]
      · simp [-ixD_tup, -lenD_str, forL, p1__law_near, p0, p1, e0, h0, h00, c1, hb, big]
theorem near_run {rs : List (List Nat)} {w : Nat} (g : Wd rs w) (p : IP) : m__law_near.run [.tup (rs.map rowD), Pu.pairD p] = .ok (.lst (((ar p).filter (insB rs w)).map Pu.pairD)) true [] := by
  obtain ⟨y3, y4, h⟩ := nearLoop g p [(-1, 0), (0, -1), (0, 1), (1, 0)] [] .no .no (by simp)
  have e : ([(-1, 0), (0, -1), (0, 1), (1, 0)] : List IP).map (fun m => (p.1 + m.1, p.2 + m.2)) = ar p := by
    unfold ar
    simp only [List.map_cons, List.map_nil, Int.add_zero]
    rfl
  rw [e] at h
  simp only [List.map_nil, List.nil_append] at h
  have e2 : ([(-1, 0), (0, -1), (0, 1), (1, 0)] : List IP).map Pu.pairD = [.tup [.int (-1), .int 0], .tup [.int 0, .int (-1)], .tup [.int 0, .int 1], .tup [.int 1, .int 0]] := rfl
  rw [e2] at h
  have ei : itemsD (.tup [.tup [.int (-1), .int 0], .tup [.int 0, .int (-1)], .tup [.int 0, .int 1], .tup [.int 1, .int 0]]) = some [.tup [.int (-1), .int 0], .tup [.int 0, .int (-1)], .tup [.int 0, .int 1], .tup [.int 1, .int 0]] := rfl
  simp [m__law_near, runDef, b__law_near, env0, iosAt, ei, h, big]
theorem lmin_run {rs : List (List Nat)} {w : Nat} (g : Wd rs w) {p : IP} (h : wtr rs w p = true) : m__law_minutes.run [.tup (rs.map rowD), Pu.pairD p] = .ok (.int (dg rs w p)) false [] := by
  obtain ⟨i, j, cs, e, h1, h2, h3, hw⟩ := wtr_at g h
  have k2 := ix_rowsT h1
  have k3 := ix_row h3 h2
  have k4 := (digit_ok hw).1
  have p0 : ∀ p : IP, ixD (Pu.pairD p) (.int 0) = some (.int p.1) := fun _ => rfl
  have p1 : ∀ p : IP, ixD (Pu.pairD p) (.int 1) = some (.int p.2) := fun _ => rfl
  unfold dg
  rw [if_pos h]
  generalize signAt rs p = c at *
  have hw' : c ∈ (("123456789" : String) : Str).cps.toList := hw
  have d1 := dIn_sign c (("123456789" : String) : Str)
  rw [decide_eq_true hw'] at d1
  have es : sgn c = .str ⟨#[c]⟩ := rfl
  rw [es] at k3 k4
  subst e
  simp [-ixD_tup, -ixD_str, -dIn_sign, m__law_minutes, runDef, b__law_minutes, env0, iosAt, p0, p1, k2, k3, k4, d1]
end P_k27
namespace P_k27
open PySem PySem.Spec L2 Pu
open PyProof.Rows hiding St
/-! the waves' times -/
def bdR : M Fl := (sSeq (sUnp (gTu (gNs (gNm 4) (gNs (gNm 5) gN0))) (eHPop 3))
    (sIf (tVal (eOp dNotIn (eVar 5) (bVar 2))) (sSeq (sSetI 2 (eVar 5) (eVar 4))
    (sFor (gNm 6) (iAny (mCallO 2 m_water_beside (aVal (eVar 0) (aVal (eVar 5) aNil)))) p1_reached_times)) sNil))
theorem pushLoop {rs : List (List Nat)} {w : Nat} (g : Wd rs w) (srcs : List IP) {p : IP} (hp : wtr rs w p = true) (t : Int) (c1 s2 : Sl) : ∀ (qs : List IP) (Q : List Qe) (y : Sl), (∀ q ∈ qs, wtr rs w q = true) → Q.length + qs.length ≤ 5000 →
    ∃ y', forL (gNm 6) p1_reached_times (qs.map Pu.pairD) [.val (chartD rs srcs), c1, s2, .own (.lst (Q.map qD)), .val (.int t), .val (Pu.pairD p), y] = .ok .nx [.val (chartD rs srcs), c1, s2, .own (.lst ((pushs (stp rs w) t p qs Q).map qD)), .val (.int t), .val (Pu.pairD p), y']
  | [], Q, y, _, _ => ⟨y, rfl⟩
  | q :: qs, Q, y, h, hl => by
    have h1 := step_run g srcs hp (h q List.mem_cons_self)
    have hb : Q.length < big := by simp at hl; unfold big; omega
    have h2 := hPushD_q Q (t + stp rs w p q, q) hb
    have e : D.tup [.int (t + stp rs w p q), Pu.pairD q] = qD (t + stp rs w p q, q) := rfl
    obtain ⟨y', ih⟩ := pushLoop g srcs hp t c1 s2 qs (PuH.hPush qLt Q (t + stp rs w p q, q)) (.val (Pu.pairD q)) (fun x hx => h x (List.mem_cons_of_mem _ hx)) (by
      rw [(PuH.hPush_perm _ _).length_eq]
      simp at hl ⊢
      omega)
    refine ⟨y', ?_⟩
    rw [pushs, ← ih]
    simp [forL, p1_reached_times, h1, e, h2, big]
theorem way_wtr {rs : List (List Nat)} {w : Nat} {S : Tb} (hS : ∀ p t, (p, t) ∈ S → wtr rs w p = true) {p : IP} {t : Int} (h : Wy (nbs rs w) (stp rs w) S p t) : wtr rs w p = true := by
  cases h with
  | base h => exact hS _ _ h
  | step _ h2 => exact (List.mem_filter.mp h2).2
theorem cells_le {rs : List (List Nat)} {w : Nat} (g : Wd rs w) (h7 : rs.length ≤ 7) : (cells rs w).length ≤ 49 := by
  unfold cells
  rw [cellsR_len]
  exact Nat.mul_le_mul h7 g.w7
theorem dijk {rs : List (List Nat)} {w : Nat} (g : Wd rs w) (h7 : rs.length ≤ 7) (srcs : List IP) {one : IP} (h1 : wtr rs w one = true) : ∀ (n : Nat) (f : Tb) (Q : List Qe) (y4 y5 y6 : Sl), DInv (nbs rs w) (stp rs w) one (cells rs w) f Q → Q.length + 4 * ((cells rs w).length - f.length) < n → n ≤ 4000 →
    ∃ (f' : Tb) (y4' y5' y6' : Sl), Right (nbs rs w) (stp rs w) [(one, 0)] f' ∧ Tk (cells rs w) f' ∧ whL (tTru (bVar 3)) bdR n [.val (chartD rs srcs), .val (Pu.pairD one), .own (tbD f), .own (.lst (Q.map qD)), y4, y5, y6] = .ok .nx [.val (chartD rs srcs), .val (Pu.pairD one), .own (tbD f'), .own (.lst []), y4', y5', y6']
  | 0, f, Q, y4, y5, y6, I, hn, _ => absurd hn (Nat.not_lt_zero _)
  | n + 1, f, Q, y4, y5, y6, I, hn, h4 => by
    by_cases hQ : Q = []
    · subst hQ
      exact ⟨f, y4, y5, y6, I.right (stp_pos g), I.tk, by simp [whL]⟩
    · obtain ⟨x, R, hx⟩ := PuH.pop_some (lt := qLt) hQ
      have pm := (PuH.hPop_perm hx).length_eq
      rw [List.length_cons] at pm
      have k1 := hPopD_q Q
      rw [hx, Option.map_some] at k1
      have k1 : hPopD (Q.map qD) = some (D.tup [.int x.1, Pu.pairD x.2], R.map qD) := k1
      have k2 := dNotIn_tb f x.2
      have k0 : truD (.lst (Q.map qD)) = some true := by
        rw [truD_lst]
        cases Q with
        | nil => exact absurd rfl hQ
        | cons a b => rfl
      have hS : ∀ p t, (p, t) ∈ [(one, (0 : Int))] → wtr rs w p = true := fun p t h => by
        have h' := List.mem_singleton.mp h
        cases h'
        exact h1
      have hw : wtr rs w x.2 = true := way_wtr hS (I.way x ((PuH.hPop_perm hx).mem_iff.mpr List.mem_cons_self))
      have lf := I.tk.le
      have l49 := cells_le g h7
      by_cases c : x.2 ∈ f.map (·.1)
      · obtain ⟨u, hu⟩ : ∃ u, lk f x.2 = some u := by
          cases d : lk f x.2 with
          | none => exact absurd c ((lk_none_iff _ _).mp d)
          | some u => exact ⟨u, rfl⟩
        rw [hu] at k2
        obtain ⟨f', y4', y5', y6', i1, i2, i3⟩ := dijk g h7 srcs h1 n f R (.val (.int x.1)) (.val (Pu.pairD x.2)) y6 (I.skip hx c) (by omega) (by omega)
        refine ⟨f', y4', y5', y6', i1, i2, ?_⟩
        rw [← i3]
        simp [-truD_lst, whL, bdR, k0, k1, k2]
      · rw [(lk_none_iff _ _).mpr c] at k2
        have k3 := setD_tb f x.2 x.1 (by unfold big; omega)
        have k4 := wb_run g srcs x.2
        have k5 : itemsD (.lst ((nbs rs w x.2).map Pu.pairD)) = some ((nbs rs w x.2).map Pu.pairD) := rfl
        have l4 := nbs_len rs w x.2
        obtain ⟨y', k6⟩ := pushLoop g srcs hw x.1 (.val (Pu.pairD one)) (.own (tbD (ptb f x.2 x.1))) (nbs rs w x.2) R y6 (fun q hq => (List.mem_filter.mp hq).2) (by omega)
        have D' := I.settle (stp_pos g) (wtr_in g h1) (nbs_in g) hx c
        have lp := pt_len c x.1
        have ll := D'.tk.le
        obtain ⟨f', y4', y5', y6', i1, i2, i3⟩ := dijk g h7 srcs h1 n _ _ (.val (.int x.1)) (.val (Pu.pairD x.2)) y' D' (by rw [pushs_len]; omega) (by omega)
        refine ⟨f', y4', y5', y6', i1, i2, ?_⟩
        rw [← i3]
        simp [-truD_lst, whL, bdR, k0, k1, k2, k3, k4, k5, k6]
theorem reached_tk {rs : List (List Nat)} {w : Nat} (g : Wd rs w) (h7 : rs.length ≤ 7) (srcs : List IP) {one : IP} (h1 : wtr rs w one = true) : ∃ f : Tb, Right (nbs rs w) (stp rs w) [(one, 0)] f ∧ Tk (cells rs w) f ∧ m_reached_times.run [chartD rs srcs, Pu.pairD one] = .ok (tbD f) true [] := by
  have l49 := cells_le g h7
  obtain ⟨f, y4, y5, y6, i1, i2, i3⟩ := dijk g h7 srcs h1 WN [] [(0, one)] .no .no .no DInv.init (by show _ < 4000; simp; omega) (by show 4000 ≤ 4000; omega)
  have i3 : whL (tTru (bVar 3)) (sSeq (sUnp (gTu (gNs (gNm 4) (gNs (gNm 5) gN0))) (eHPop 3))
    (sIf (tVal (eOp dNotIn (eVar 5) (bVar 2))) (sSeq (sSetI 2 (eVar 5) (eVar 4))
    (sFor (gNm 6) (iAny (mCallO 2 m_water_beside (aVal (eVar 0) (aVal (eVar 5) aNil)))) p1_reached_times)) sNil)) WN [.val (chartD rs srcs), .val (Pu.pairD one), .own (.dct []), .own (.lst [D.tup [.int 0, Pu.pairD one]]), .no, .no, .no] = _ := i3
  exact ⟨f, i1, i2, by simp [m_reached_times, runDef, b_reached_times, env0, iosAt, sWhl, i3, big]⟩
theorem reached_run {rs : List (List Nat)} {w : Nat} (g : Wd rs w) (h7 : rs.length ≤ 7) (srcs : List IP) {one : IP} (h1 : wtr rs w one = true) : ∃ f : Tb, Right (nbs rs w) (stp rs w) [(one, 0)] f ∧ m_reached_times.run [chartD rs srcs, Pu.pairD one] = .ok (tbD f) true [] := by
  obtain ⟨f, h1, _, h2⟩ := reached_tk g h7 srcs h1
  exact ⟨f, h1, h2⟩
/-! turn by turn -/
structure WT (rs : List (List Nat)) (w : Nat) (S f : Tb) : Prop where
  tk : Tk (cells rs w) f
  wy : ∀ p t, lk f p = some t → Wy (nbs rs w) (stp rs w) S p t
def TLe (f g : Tb) : Prop := ∀ p v, lk f p = some v → ∃ u, lk g p = some u ∧ u ≤ v
theorem TLe.refl (f : Tb) : TLe f f := fun p v h => ⟨v, h, Int.le_refl _⟩
theorem TLe.trans {f g h : Tb} (a : TLe f g) (b : TLe g h) : TLe f h := fun p v e => by
  obtain ⟨u, e1, l1⟩ := a p v e
  obtain ⟨t, e2, l2⟩ := b p u e1
  exact ⟨t, e2, by omega⟩
theorem relax {rs : List (List Nat)} {w : Nat} (g : Wd rs w) (h7 : rs.length ≤ 7) {S f : Tb} (hS : ∀ p t, (p, t) ∈ S → wtr rs w p = true) (W : WT rs w S f) {p q : IP} {v : Int} (hp : lk f p = some v) (hq : q ∈ ar p) (hi : insB rs w q = true) (s1 s3 y7 : Sl) (b : Bool) :
    ∃ (f' : Tb) (b' : Bool) (y7' : Sl), WT rs w S f' ∧ TLe f f' ∧ (b' = false → b = false ∧ f' = f) ∧ (wtr rs w q = true → ∃ u, lk f' q = some u ∧ u ≤ v + stp rs w p q) ∧ p1__law_waves [.val (.tup (rs.map rowD)), s1, .own (tbD f), s3, .val (.bl b), .val (Pu.pairD p), .val (Pu.pairD q), y7] = .ok .nx [.val (.tup (rs.map rowD)), s1, .own (tbD f'), s3, .val (.bl b'), .val (Pu.pairD p), .val (Pu.pairD q), y7'] := by
  obtain ⟨i, j, cs, e, h1, h2⟩ := at_in g hi
  have lw : cs.length = w := g.all cs (List.mem_of_getElem? h1)
  have k2 := ix_rowsT h1
  have k3 := ix_row (by have := g.w7; omega) h2
  have p0 : ∀ p : IP, ixD (Pu.pairD p) (.int 0) = some (.int p.1) := fun _ => rfl
  have p1 : ∀ p : IP, ixD (Pu.pairD p) (.int 1) = some (.int p.2) := fun _ => rfl
  have q1 : q.1 = (i : Int) := by rw [e]
  have q2 : q.2 = (j : Int) := by rw [e]
  have es : sgn (signAt rs q) = .str ⟨#[signAt rs q]⟩ := rfl
  have d1 := dIn_sign (signAt rs q) (("123456789" : String) : Str)
  have ew : wtr rs w q = decide (signAt rs q ∈ (("123456789" : String) : Str).cps.toList) := by
    unfold wtr sgB
    rw [hi]
    rfl
  rw [← ew] at d1
  rw [es] at k3
  cases c : wtr rs w q with
  | false =>
    rw [c] at d1
    exact ⟨f, b, y7, W, .refl f, fun h => ⟨h, rfl⟩, fun h => (by cases h), by simp [-ixD_tup, -ixD_str, -dIn_sign, p1__law_waves, p0, p1, q1, q2, k2, k3, d1]⟩
  | true =>
    rw [c] at d1
    have wp := W.wy p v hp
    have m1 := lmin_run g (way_wtr hS wp)
    have m2 := lmin_run g c
    have hn : q ∈ nbs rs w p := List.mem_filter.mpr ⟨hq, c⟩
    have wq := Wy.step wp hn
    have kf := ixD_tb f p
    rw [hp, Option.map_some] at kf
    have kn := dNotIn_tb f q
    have lf := W.tk.le
    have l49 := cells_le g h7
    have ks := setD_tb f q (v + dg rs w p + dg rs w q) (by unfold big; omega)
    have et : v + dg rs w p + dg rs w q = v + stp rs w p q := by unfold stp; omega
    have upd : (∀ u, lk f q = some u → v + stp rs w p q < u) → WT rs w S (ptb f q (v + dg rs w p + dg rs w q)) ∧ TLe f (ptb f q (v + dg rs w p + dg rs w q)) ∧ ∃ u, lk (ptb f q (v + dg rs w p + dg rs w q)) q = some u ∧ u ≤ v + stp rs w p q := fun h => by
      refine ⟨⟨W.tk.pt (wtr_in g c) _, fun r t er => ?_⟩, fun r t er => ?_, v + dg rs w p + dg rs w q, by rw [lk_pt, if_pos rfl], by omega⟩
      · rw [lk_pt] at er
        by_cases d : r = q
        · subst d
          rw [if_pos rfl] at er
          cases er
          rw [et]
          exact wq
        · rw [if_neg d] at er
          exact W.wy r t er
      · rw [lk_pt]
        by_cases d : r = q
        · subst d
          have := h t er
          exact ⟨_, if_pos rfl, by omega⟩
        · rw [if_neg d]
          exact ⟨t, er, Int.le_refl _⟩
    cases d : lk f q with
    | none =>
      rw [d] at kn
      obtain ⟨u1, u2, u3⟩ := upd fun u hu => by rw [d] at hu; cases hu
      exact ⟨_, true, _, u1, u2, fun h => (by cases h), fun _ => u3, by simp [-ixD_tup, -ixD_str, -dIn_sign, p1__law_waves, p0, p1, q1, q2, k2, k3, d1, m1, m2, kf, kn, ks]; rfl⟩
    | some u =>
      rw [d] at kn
      have kq := ixD_tb f q
      rw [d, Option.map_some] at kq
      by_cases l : v + dg rs w p + dg rs w q < u
      · obtain ⟨u1, u2, u3⟩ := upd fun u' hu => by rw [d] at hu; cases hu; omega
        exact ⟨_, true, _, u1, u2, fun h => (by cases h), fun _ => u3, by simp [-ixD_tup, -ixD_str, -dIn_sign, p1__law_waves, p0, p1, q1, q2, k2, k3, d1, m1, m2, kf, kn, kq, ks, l]; rfl⟩
      · exact ⟨f, b, _, W, .refl f, fun h => ⟨h, rfl⟩, fun _ => ⟨u, d, by omega⟩, by simp [-ixD_tup, -ixD_str, -dIn_sign, p1__law_waves, p0, p1, q1, q2, k2, k3, d1, m1, m2, kf, kn, kq, ks, l]; rfl⟩
theorem relaxL {rs : List (List Nat)} {w : Nat} (g : Wd rs w) (h7 : rs.length ≤ 7) {S : Tb} (hS : ∀ p t, (p, t) ∈ S → wtr rs w p = true) (p : IP) (s1 s3 : Sl) : ∀ (qs : List IP) (f : Tb) (b : Bool) (v : Int) (y6 y7 : Sl), WT rs w S f → lk f p = some v → (∀ q ∈ qs, q ∈ ar p ∧ insB rs w q = true) →
    ∃ (f' : Tb) (b' : Bool) (y6' y7' : Sl), WT rs w S f' ∧ TLe f f' ∧ (b' = false → b = false ∧ f' = f) ∧ (∀ q ∈ qs, wtr rs w q = true → ∃ u, lk f' q = some u ∧ u ≤ v + stp rs w p q) ∧ forL (gNm 6) p1__law_waves (qs.map Pu.pairD) [.val (.tup (rs.map rowD)), s1, .own (tbD f), s3, .val (.bl b), .val (Pu.pairD p), y6, y7] = .ok .nx [.val (.tup (rs.map rowD)), s1, .own (tbD f'), s3, .val (.bl b'), .val (Pu.pairD p), y6', y7']
  | [], f, b, v, y6, y7, W, hp, _ => ⟨f, b, y6, y7, W, .refl f, fun h => ⟨h, rfl⟩, fun q hq => (by cases hq), rfl⟩
  | q :: qs, f, b, v, y6, y7, W, hp, hq => by
    obtain ⟨h1, h2⟩ := hq q List.mem_cons_self
    obtain ⟨f1, b1, z7, W1, l1, n1, r1, e1⟩ := relax g h7 hS W hp h1 h2 s1 s3 y7 b
    obtain ⟨v1, hp1, lv⟩ := l1 p v hp
    obtain ⟨f', b', y6', y7', W', l', n', r', e'⟩ := relaxL g h7 hS p s1 s3 qs f1 b1 v1 (.val (Pu.pairD q)) z7 W1 hp1 fun x hx => hq x (List.mem_cons_of_mem _ hx)
    refine ⟨f', b', y6', y7', W', l1.trans l', fun h => ?_, fun x hx hw => ?_, ?_⟩
    · obtain ⟨a1, a2⟩ := n' h
      obtain ⟨a3, a4⟩ := n1 a1
      exact ⟨a3, a2.trans a4⟩
    · rcases List.mem_cons.mp hx with e | e
      · subst e
        obtain ⟨u, a1, a2⟩ := r1 hw
        obtain ⟨t, a3, a4⟩ := l' x u a1
        exact ⟨t, a3, by omega⟩
      · obtain ⟨u, a1, a2⟩ := r' x e hw
        exact ⟨u, a1, by omega⟩
    · rw [← e']
      simp [forL, e1]
theorem turnL {rs : List (List Nat)} {w : Nat} (g : Wd rs w) (h7 : rs.length ≤ 7) {S : Tb} (hS : ∀ p t, (p, t) ∈ S → wtr rs w p = true) (s1 s3 : Sl) : ∀ (ps : List IP) (f : Tb) (b : Bool) (y5 y6 y7 : Sl), WT rs w S f → (∀ p ∈ ps, ∃ v, lk f p = some v) →
    ∃ (f' : Tb) (b' : Bool) (y5' y6' y7' : Sl), WT rs w S f' ∧ TLe f f' ∧ (b' = false → b = false ∧ f' = f) ∧ (∀ p ∈ ps, ∀ v, lk f p = some v → ∀ q ∈ nbs rs w p, ∃ u, lk f' q = some u ∧ u ≤ v + stp rs w p q) ∧ forL (gNm 5) p2__law_waves (ps.map Pu.pairD) [.val (.tup (rs.map rowD)), s1, .own (tbD f), s3, .val (.bl b), y5, y6, y7] = .ok .nx [.val (.tup (rs.map rowD)), s1, .own (tbD f'), s3, .val (.bl b'), y5', y6', y7']
  | [], f, b, y5, y6, y7, W, _ => ⟨f, b, y5, y6, y7, W, .refl f, fun h => ⟨h, rfl⟩, fun q hq => (by cases hq), rfl⟩
  | p :: ps, f, b, y5, y6, y7, W, hp => by
    obtain ⟨v, hv⟩ := hp p List.mem_cons_self
    obtain ⟨f1, b1, z6, z7, W1, l1, n1, r1, e1⟩ := relaxL g h7 hS p s1 s3 ((ar p).filter (insB rs w)) f b v y6 y7 W hv fun q hq => List.mem_filter.mp hq
    obtain ⟨f', b', y5', y6', y7', W', l', n', r', e'⟩ := turnL g h7 hS s1 s3 ps f1 b1 (.val (Pu.pairD p)) z6 z7 W1 fun x hx => by
      obtain ⟨u, a⟩ := hp x (List.mem_cons_of_mem _ hx)
      obtain ⟨t, a2, _⟩ := l1 x u a
      exact ⟨t, a2⟩
    refine ⟨f', b', y5', y6', y7', W', l1.trans l', fun h => ?_, fun x hx u hu q hq => ?_, ?_⟩
    · obtain ⟨a1, a2⟩ := n' h
      obtain ⟨a3, a4⟩ := n1 a1
      exact ⟨a3, a2.trans a4⟩
    · rcases List.mem_cons.mp hx with e | e
      · subst e
        rw [hv] at hu
        cases hu
        obtain ⟨m1, m2⟩ := List.mem_filter.mp hq
        obtain ⟨u, a1, a2⟩ := r1 q (List.mem_filter.mpr ⟨m1, ins_wtr m2⟩) m2
        obtain ⟨t, a3, a4⟩ := l' q u a1
        exact ⟨t, a3, by omega⟩
      · obtain ⟨u1, a1, a2⟩ := l1 x u hu
        obtain ⟨t, a3, a4⟩ := r' x e u1 a1 q hq
        exact ⟨t, a3, by omega⟩
    · rw [← e']
      have k := near_run g p
      have ki : itemsD (.lst (((ar p).filter (insB rs w)).map Pu.pairD)) = some (((ar p).filter (insB rs w)).map Pu.pairD) := rfl
      simp [forL, p2__law_waves, k, ki, e1]
theorem wavesL {rs : List (List Nat)} {w : Nat} (g : Wd rs w) (h7 : rs.length ≤ 7) {S : Tb} (hS : ∀ p t, (p, t) ∈ S → wtr rs w p = true) (hS0 : ∀ p t, (p, t) ∈ S → 0 ≤ t) (s1 : Sl) : ∀ (m j : Nat) (f : Tb) (y3 y4 y5 y6 y7 : Sl), WT rs w S f → (∀ p t, (p, t) ∈ S → ∃ u, lk f p = some u ∧ u ≤ t) → (∃ k, Upto (nbs rs w) (stp rs w) S f k ∧ k + m = (cells rs w).length) →
    ∃ f' : Tb, Right (nbs rs w) (stp rs w) S f' ∧ ((∃ e', forL (gNm 3) p3__law_waves (rr j m) [.val (.tup (rs.map rowD)), s1, .own (tbD f), y3, y4, y5, y6, y7] = .ok (.retO (tbD f')) e') ∨ ∃ y3' y4' y5' y6' y7', forL (gNm 3) p3__law_waves (rr j m) [.val (.tup (rs.map rowD)), s1, .own (tbD f), y3, y4, y5, y6, y7] = .ok .nx [.val (.tup (rs.map rowD)), s1, .own (tbD f'), y3', y4', y5', y6', y7'])
  | 0, j, f, y3, y4, y5, y6, y7, W, hs, ⟨k, U, hk⟩ => by
    have ek : k = (cells rs w).length := by omega
    subst ek
    exact ⟨f, U.all (fun p t h => wtr_in g (hS p t h)) (nbs_in g) W.wy, .inr ⟨y3, y4, y5, y6, y7, rfl⟩⟩
  | m + 1, j, f, y3, y4, y5, y6, y7, W, hs, ⟨k, U, hk⟩ => by
    have mem : ∀ p, p ∈ sortL (f.map (·.1)) ↔ p ∈ f.map (·.1) := fun p => (sortL_perm _).mem_iff
    obtain ⟨f1, b1, z5, z6, z7, W1, l1, n1, r1, e1⟩ := turnL g h7 hS s1 (.val (.int (j : Nat))) (sortL (f.map (·.1))) f false y5 y6 y7 W fun p hp => by
      cases c : lk f p with
      | none => exact absurd ((mem p).mp hp) ((lk_none_iff _ _).mp c)
      | some u => exact ⟨u, rfl⟩
    have T : Turn (nb := nbs rs w) (wt := stp rs w) S f f1 := ⟨W1.wy, l1, fun p v e q hq => r1 p ((mem p).mpr (lk_some_mem e)) v e q hq⟩
    have ka := listA_tb f
    have kb := sortD_pairs (f.map (·.1))
    have kc : itemsD (.lst ((sortL (f.map (·.1))).map Pu.pairD)) = some ((sortL (f.map (·.1))).map Pu.pairD) := rfl
    cases b1 with
    | false =>
      obtain ⟨_, rfl⟩ := n1 rfl
      refine ⟨f1, right_of W1.wy hs T.rel, .inl ⟨[.val (.tup (rs.map rowD)), s1, .no, .val (.int (j : Nat)), .val (.bl false), z5, z6, z7], ?_⟩⟩
      simp [-listA_dct, -List.map_map, rr, forL, p3__law_waves, ka, kb, kc, e1]
    | true =>
      obtain ⟨f', i1, i2⟩ := wavesL g h7 hS hS0 s1 m (j + 1) f1 (.val (.int (j : Nat))) (.val (.bl true)) z5 z6 z7 W1 (fun p t h => by
        obtain ⟨u, a1, a2⟩ := hs p t h
        obtain ⟨t', a3, a4⟩ := l1 p u a1
        exact ⟨t', a3, by omega⟩) ⟨k + 1, U.turn hS0 (stp_pos g) hs W.wy T, by omega⟩
      refine ⟨f', i1, ?_⟩
      have st : forL (gNm 3) p3__law_waves (rr j (m + 1)) [.val (.tup (rs.map rowD)), s1, .own (tbD f), y3, y4, y5, y6, y7] = forL (gNm 3) p3__law_waves (rr (j + 1) m) [.val (.tup (rs.map rowD)), s1, .own (tbD f1), .val (.int (j : Nat)), .val (.bl true), z5, z6, z7] := by
        simp [-listA_dct, -List.map_map, rr, forL, p3__law_waves, ka, kb, kc, e1]
      rw [st]
      exact i2
theorem waves_run {rs : List (List Nat)} {w : Nat} (g : Wd rs w) (h7 : rs.length ≤ 7) {one : IP} (h1 : wtr rs w one = true) : ∃ f : Tb, Right (nbs rs w) (stp rs w) [(one, 0)] f ∧ m__law_waves.run [.tup (rs.map rowD), tbD [(one, 0)]] = .ok (tbD f) true [] := by
  have hS : ∀ p t, (p, t) ∈ [(one, (0 : Int))] → p = one ∧ t = 0 := fun p t h => by
    have h' := List.mem_singleton.mp h
    cases h'
    exact ⟨rfl, rfl⟩
  have e1 : ∀ p, lk [(one, (0 : Int))] p = if one = p then some 0 else none := fun p => by rw [lk_cons]; rfl
  obtain ⟨f, i1, i2⟩ := wavesL g h7 (S := [(one, 0)]) (fun p t h => by rw [(hS p t h).1]; exact h1) (fun p t h => by rw [(hS p t h).2]; exact Int.le_refl _) (.val (tbD [(one, 0)])) (rs.length * w) 0 [(one, 0)] .no .no .no .no .no
    ⟨⟨by simp, fun p hp => by
      rw [List.mem_singleton.mp hp]
      exact wtr_in g h1⟩, fun p t e => by
      rw [e1] at e
      by_cases c : one = p
      · rw [if_pos c] at e
        cases e
        subst c
        exact .base (by simp)
      · rw [if_neg c] at e; cases e⟩
    (fun p t h => by
      obtain ⟨rfl, rfl⟩ := hS p t h
      exact ⟨0, by rw [e1, if_pos rfl], Int.le_refl _⟩) ⟨0, .inr ⟨[], List.nodup_nil, rfl, fun p hp => by cases hp⟩, by unfold cells; rw [cellsR_len, Nat.zero_add]⟩
  obtain ⟨r0, h0, h00⟩ := row0 g
  have kd := dictA_one one 0
  have kl : lenD (.tup (rs.map rowD)) = some (.int (rs.length : Nat)) := by rw [lenD_tup, List.length_map]
  have km : ((rs.length : Int) * (w : Int)) = ((rs.length * w : Nat) : Int) := by rw [Int.natCast_mul]
  have kr := rng1_rr (rs.length * w) (by have := Nat.mul_le_mul h7 g.w7; omega)
  have ka : rs.length ≤ 18446744073709551615 := by omega
  refine ⟨f, i1, ?_⟩
  rcases i2 with ⟨e', i2⟩ | ⟨y3, y4, y5, y6, y7, i2⟩
  · simp [-Int.natCast_mul, -ixD_tup, -lenD_str, -lenD_tup, m__law_waves, runDef, b__law_waves, env0, iosAt, kd, kl, h0, h00, ka, km, kr, i2]
  · simp [-Int.natCast_mul, -ixD_tup, -lenD_str, -lenD_tup, m__law_waves, runDef, b__law_waves, env0, iosAt, kd, kl, h0, h00, ka, km, kr, i2]
end P_k27
namespace P_k27
open PySem PySem.Spec L2 Pu
open PyProof.Rows hiding St
@[simp] theorem io_lev : m__law_event.io = [0] := rfl
@[simp] theorem io_lga : m__law_gauges.io = [0] := rfl
@[simp] theorem io_lse : m__law_seen.io = [] := rfl
@[simp] theorem io_lst : m__law_story.io = [] := rfl
@[simp] theorem io_lbe : m__law_bent.io = [0] := rfl
theorem ev_ish {ev : Tb} (h : ev ≠ []) : evish (ev.map startD) = true := by
  unfold evish
  have h1 : (ev.map startD).all evD = true := by
    rw [List.all_eq_true]
    intro d hd
    obtain ⟨x, _, rfl⟩ := List.mem_map.mp hd
    rfl
  rw [h1]
  cases ev with
  | nil => exact absurd rfl h
  | cons a b => rfl
theorem ents_ev : ∀ ev : Tb, entsD (ev.map startD) = some (ev.map fun x => (kyP x.1, D.int x.2))
  | [] => rfl
  | x :: ev => by
    rw [List.map_cons, List.map_cons]
    show (keyOf (Pu.pairD x.1)).bind (fun kk => (entsD (ev.map startD)).map fun es => (kk, D.int x.2) :: es) = _
    rw [keyOf_pair, ents_ev ev]
    rfl
theorem ky_nodup {ev : Tb} (h : (ev.map (·.1)).Nodup) : ((ev.map fun x => (kyP x.1, D.int x.2)).map (·.1)).Nodup := by
  rw [List.map_map]
  have e : ((fun z : List Key × D => z.1) ∘ fun x : IP × Int => (kyP x.1, D.int x.2)) = kyP ∘ fun x : IP × Int => x.1 := rfl
  rw [e, ← List.map_map]
  exact List.Pairwise.map _ (fun a b hab z => hab ((kyP_iff a b).mp z)) h
theorem dict_ev {ev : Tb} (h0 : ev ≠ []) (h : (ev.map (·.1)).Nodup) : dictA (evtD ev) = some (tbD ev) := by
  have e1 : dictD (evtD ev) = none := rfl
  have e2 : dictT (evtD ev) = some (tbD ev) := by
    show (if evish (ev.map startD) = true then (entsD (ev.map startD)).bind _ else none) = _
    rw [if_pos (ev_ish h0), ents_ev, Option.bind_some, if_pos (ky_nodup h)]
    rfl
  unfold dictA
  rw [e1, e2]
  rfl
/-- an event -/
structure Evt (rs : List (List Nat)) (w : Nat) (S : Tb) : Prop where
  ne : S ≠ []
  nd : (S.map (·.1)).Nodup
  wat : ∀ p t, (p, t) ∈ S → wtr rs w p = true
  pos : ∀ p t, (p, t) ∈ S → 0 ≤ t
/-- the waves of starts that dict(..) makes a table of -/
theorem waves_gen {rs : List (List Nat)} {w : Nat} (g : Wd rs w) (h7 : rs.length ≤ 7) {S : Tb} {A : D} (hA : dictA A = some (tbD S)) (hd : (S.map (·.1)).Nodup) (hw : ∀ p t, (p, t) ∈ S → wtr rs w p = true) (hp : ∀ p t, (p, t) ∈ S → 0 ≤ t) : ∃ f : Tb, Right (nbs rs w) (stp rs w) S f ∧ m__law_waves.run [.tup (rs.map rowD), A] = .ok (tbD f) true [] := by
  obtain ⟨f, i1, i2⟩ := wavesL g h7 (S := S) hw hp (.val A) (rs.length * w) 0 S .no .no .no .no .no
    ⟨⟨hd, fun p hp => by
      obtain ⟨x, hx, rfl⟩ := List.mem_map.mp hp
      exact wtr_in g (hw x.1 x.2 hx)⟩, fun p t e => .base (mem_lk e)⟩
    (fun p t h => ⟨t, lk_mem hd h, Int.le_refl _⟩) ⟨0, .inr ⟨[], List.nodup_nil, rfl, fun p hp => by cases hp⟩, by unfold cells; rw [cellsR_len, Nat.zero_add]⟩
  obtain ⟨r0, h0, h00⟩ := row0 g
  have kl : lenD (.tup (rs.map rowD)) = some (.int (rs.length : Nat)) := by rw [lenD_tup, List.length_map]
  have km : ((rs.length : Int) * (w : Int)) = ((rs.length * w : Nat) : Int) := by rw [Int.natCast_mul]
  have kr := rng1_rr (rs.length * w) (by have := Nat.mul_le_mul h7 g.w7; omega)
  have ka : rs.length ≤ 18446744073709551615 := by omega
  refine ⟨f, i1, ?_⟩
  rcases i2 with ⟨e', i2⟩ | ⟨y3, y4, y5, y6, y7, i2⟩
  · simp [-Int.natCast_mul, -ixD_tup, -lenD_str, -lenD_tup, m__law_waves, runDef, b__law_waves, env0, iosAt, hA, kl, h0, h00, ka, km, kr, i2]
  · simp [-Int.natCast_mul, -ixD_tup, -lenD_str, -lenD_tup, m__law_waves, runDef, b__law_waves, env0, iosAt, hA, kl, h0, h00, ka, km, kr, i2]
theorem waves_ev {rs : List (List Nat)} {w : Nat} (g : Wd rs w) (h7 : rs.length ≤ 7) {S : Tb} (E : Evt rs w S) : ∃ f : Tb, Right (nbs rs w) (stp rs w) S f ∧ m__law_waves.run [.tup (rs.map rowD), evtD S] = .ok (tbD f) true [] := waves_gen g h7 (dict_ev E.ne E.nd) E.nd E.wat E.pos
theorem waves_one {rs : List (List Nat)} {w : Nat} (g : Wd rs w) (h7 : rs.length ≤ 7) {s : IP} (hs : wtr rs w s = true) {t : Int} (ht : 0 ≤ t) : ∃ f : Tb, (∀ p, lk f p = (dst (nbs rs w) (stp rs w) s p).map (t + ·)) ∧ m__law_waves.run [.tup (rs.map rowD), tbD [(s, t)]] = .ok (tbD f) true [] := by
  have one : ∀ u : Int, ∀ p t', (p, t') ∈ [(s, u)] → p = s ∧ t' = u := fun u p t' h => by
    have h' := List.mem_singleton.mp h
    cases h'
    exact ⟨rfl, rfl⟩
  obtain ⟨f, R, e⟩ := waves_gen g h7 (S := [(s, t)]) (dictA_one s t) (by simp) (fun p t' h => by rw [(one t p t' h).1]; exact hs) (fun p t' h => by rw [(one t p t' h).2]; exact ht)
  obtain ⟨f0, R0, _⟩ := waves_gen g h7 (S := [(s, 0)]) (dictA_one s 0) (by simp) (fun p t' h => by rw [(one 0 p t' h).1]; exact hs) (fun p t' h => by rw [(one 0 p t' h).2]; exact Int.le_refl _)
  exact ⟨f, fun p => by rw [R.arv, arv_one ⟨f0, R0⟩], e⟩
/-! arrivals -/
theorem getD1_tbz (f : Tb) (p : IP) (z : Int) : getD1 (tbD f) (Pu.pairD p) (.int z) = some (.int ((lk f p).getD z)) := by
  show (keyOf (Pu.pairD p)).map (fun k => (getT (f.map fun x => (kyP x.1, D.int x.2)) k).getD (.int z)) = _
  rw [keyOf_pair, Option.map_some, getT_tb]
  cases lk f p <;> rfl
theorem items_tb (f : Tb) : itemsK (f.map fun x => (kyP x.1, D.int x.2)) = f.map startD := by
  unfold itemsK
  rw [List.map_map]
  rfl
end P_k27
namespace P_k27
open PySem PySem.Spec L2 Pu
open PyProof.Rows hiding St
def asRead (a t : Option Int) (clock : Int) : Bool := match t with
  | none => (match a with | none => true | some a => decide (clock < a))
  | some t => decide (a = some t)
def agB (f : Tb) (clock : Int) (rd : Rd1) : Bool := rd.all fun x => asRead (lk f x.1) x.2 clock
theorem dEq_non (i : Int) : dEq .non (.int i) = some (.bl false) := rfl
theorem dNe_non (i : Int) : dNe .non (.int i) = some (.bl true) := rfl
theorem dIsN_int (i : Int) : dIsN (.int i) .non = some (.bl false) := rfl
theorem dNotN_int (i : Int) : dNotN (.int i) .non = some (.bl true) := rfl
theorem all_bool (bs : List Bool) : allD (.lst (bs.map D.bl)) = some (.bl (bs.all id)) := by
  show (blsOf (bs.map D.bl)).map (fun bs => D.bl (bs.all id)) = _
  rw [blsOf_map]
  rfl
/-! the same data -/
theorem same_bln (n : Nat) (b : Bool) : same (n + 1) (.bl b) (.bl b) = .ok (.bl true) false [] := by
  have h1 : isiD "tuple" (.bl b) = some (.bl false) := rfl
  have h2 : isiD "bool" (.bl b) = some (.bl true) := rfl
  have h5 : dEq (.bl b) (.bl b) = some (.bl true) := by cases b <;> rfl
  simp [same, runDef, b__law_same, env0, iosAt, h1, h2, h5]
theorem same_non (n : Nat) : same (n + 1) .non .non = .ok (.bl true) false [] := by
  have h1 : isiD "tuple" .non = some (.bl false) := rfl
  have h2 : isiD "bool" .non = some (.bl false) := rfl
  have h3 : isiD "int" .non = some (.bl false) := rfl
  have h4 : isiD "str" .non = some (.bl false) := rfl
  simp [same, runDef, b__law_same, env0, iosAt, h1, h2, h3, h4]
theorem same_pl : ∀ (n : Nat) (d : D), plD n d = true → same n d d = .ok (.bl true) false []
  | 0, _, h => by cases h
  | n + 1, .int i, _ => same_int n i
  | n + 1, .bl b, _ => same_bln n b
  | n + 1, .str z, _ => same_str n z
  | n + 1, .non, _ => same_non n
  | n + 1, .tup ds, h => by
    rw [plD_tup, Bool.and_eq_true] at h
    exact same_tup n ds (of_decide_eq_true h.1) fun d hd => same_pl n d (List.all_eq_true.mp h.2 d hd)
theorem same_run {d : D} (h : plD 8 d = true) : m__law_same.run [d, d] = .ok (.bl true) false [] := same_pl 8 d h
/-! events, gauges, readings that are drawn -/
theorem evL (ds : List Int) (srcD : Sl) (m : Int) (hm : 0 < m) : ∀ (ss : List IP) (acc : Tb) (q : Nat) (y4 : Sl), acc.length + ss.length ≤ 100 →
    ∃ (ex : Tb) (q' : Nat) (y4' : Sl), (ex.map (·.1)).Sublist ss ∧ (∀ x ∈ ex, 0 ≤ x.2 ∧ x.2 < m) ∧ forL (gNm 4) p1__law_event (ss.map Pu.pairD) [.io (boxD ds q), srcD, .val (.int m), .own (.lst (acc.map startD)), y4] = .ok .nx [.io (boxD ds q'), srcD, .val (.int m), .own (.lst ((acc ++ ex).map startD)), y4']
  | [], acc, q, y4, _ => ⟨[], q, y4, List.Sublist.slnil, fun x hx => (by cases hx), by simp [forL]⟩
  | s :: ss, acc, q, y4, hl => by
    obtain ⟨d, d0, d1, e1⟩ := draw_ok ds q (many := 3) (by decide)
    by_cases c : 0 < d
    · obtain ⟨t, t0, t1, e2⟩ := draw_ok ds (q + 1) (many := m) hm
      obtain ⟨ex, q', y4', i1, i2, i3⟩ := evL ds srcD m hm ss (acc ++ [(s, t)]) (q + 1 + 1) (.val (Pu.pairD s)) (by simp at hl ⊢; omega)
      refine ⟨(s, t) :: ex, q', y4', i1.cons₂ s, fun x hx => ?_, ?_⟩
      · rcases List.mem_cons.mp hx with z | z
        · subst z; exact ⟨t0, t1⟩
        · exact i2 x z
      · rw [show acc ++ (s, t) :: ex = acc ++ [(s, t)] ++ ex from by simp, ← i3]
        have hb : acc.length < 1000000 := by simp at hl; omega
        simp [forL, p1__law_event, e1, e2, c, sd, hb, big]
    · obtain ⟨ex, q', y4', i1, i2, i3⟩ := evL ds srcD m hm ss acc (q + 1) (.val (Pu.pairD s)) (by simp at hl ⊢; omega)
      refine ⟨ex, q', y4', i1.cons s, i2, ?_⟩
      rw [← i3]
      simp [forL, p1__law_event, e1, c]
theorem asc_nd {srcs : List IP} (h : srcs.Pairwise fun p q => pLt p q = true) : srcs.Nodup := List.Pairwise.imp (fun {p q} h e => by
  subst e
  have := pLt_iff.mp h
  omega) h
theorem GoodC.nd {rs : List (List Nat)} {srcs : List IP} (g : GoodC rs srcs) : srcs.Nodup := asc_nd g.asc
theorem GoodC.wt {rs : List (List Nat)} {srcs : List IP} {w : Nat} (gw : Wd rs w) (g : GoodC rs srcs) {s : IP} (h : s ∈ srcs) : wtr rs w s = true := (g.wat s h).wtr gw
/-- an event of the chart's sources, its times below m -/
structure EvS (srcs : List IP) (m : Int) (S : Tb) : Prop where
  ne : S ≠ []
  sub : (S.map (·.1)).Sublist srcs
  tm : ∀ x ∈ S, 0 ≤ x.2 ∧ x.2 < m
theorem EvS.evt {rs : List (List Nat)} {w : Nat} {srcs : List IP} (gw : Wd rs w) (g : GoodC rs srcs) {m : Int} {S : Tb} (h : EvS srcs m S) : Evt rs w S :=
  ⟨h.ne, g.nd.sublist h.sub, fun p t hp => g.wt gw (h.sub.subset (List.mem_map.mpr ⟨_, hp, rfl⟩)), fun p t hp => (h.tm _ hp).1⟩
theorem event_ok {rs : List (List Nat)} {w : Nat} {srcs : List IP} (gw : Wd rs w) (g : GoodC rs srcs) (ds : List Int) (q : Nat) {m : Int} (hm : 0 < m) : ∃ (ev : Tb) (q' : Nat), EvS srcs m ev ∧ m__law_event.run [boxD ds q, .tup (srcs.map Pu.pairD), .int m] = .ok (evtD ev) false [(0, boxD ds q')] := by
  have l6 := g.s2
  have l1 := g.s1
  obtain ⟨ev, q1, y4, i1, i2, i4⟩ := evL ds (.val (.tup (srcs.map Pu.pairD))) m hm srcs [] q .no (by simp; omega)
  have ei : itemsD (.tup (srcs.map Pu.pairD)) = some (srcs.map Pu.pairD) := rfl
  rw [List.nil_append] at i4
  by_cases c : ev = []
  · subst c
    obtain ⟨i, k0, k1, hk⟩ := draw_ok ds q1 (many := (srcs.length : Nat)) (by omega)
    obtain ⟨t, t0, t1, ht⟩ := draw_ok ds (q1 + 1) (many := m) hm
    have hi : i.toNat < srcs.length := by omega
    have hx : ixD (.tup (srcs.map Pu.pairD)) (.int i) = some (Pu.pairD srcs[i.toNat]) := by
      obtain ⟨j, rfl⟩ : ∃ j : Nat, i = (j : Int) := ⟨i.toNat, by omega⟩
      rw [ixD_tup]
      exact atI_natD (by rw [List.getElem?_map, List.getElem?_eq_getElem (by simpa using hi)]; rfl)
    have hl : lenD (.tup (srcs.map Pu.pairD)) = some (.int (srcs.length : Nat)) := by rw [lenD_tup, List.length_map]
    have hw : srcs[i.toNat] ∈ srcs := List.getElem_mem hi
    generalize srcs[i.toNat] = s at hx hw
    refine ⟨[(s, t)], q1 + 1 + 1, ⟨by simp, List.singleton_sublist.mpr hw, fun x h => ?_⟩, ?_⟩
    · rw [List.mem_singleton.mp h]
      exact ⟨t0, t1⟩
    · simp only [List.map_nil] at i4
      simp [-ixD_tup, -lenD_tup, m__law_event, runDef, b__law_event, env0, iosAt, ei, i4, hl, hk, hx, ht, evtD, sd, big]
  · refine ⟨ev, q1, ⟨c, i1, i2⟩, ?_⟩
    have c' : ¬ ((ev.length : Int) = 0) := by
      have := List.length_pos_iff.mpr c
      omega
    simp only [List.map_nil] at i4
    simp [m__law_event, runDef, b__law_event, env0, iosAt, ei, i4, c, c', evtD]
theorem gauL (ds : List Int) (R : Sl) (m : Int) (hm : m ≤ 10) : ∀ (ps acc : List IP) (q : Nat) (y4 : Sl), acc.length ≤ 10 →
    ∃ (ex : List IP) (q' : Nat) (y4' : Sl), ex.Sublist ps ∧ acc.length + ex.length ≤ 10 ∧ forL (gNm 4) p1__law_gauges (ps.map Pu.pairD) [.io (boxD ds q), R, .val (.int m), .own (.lst (acc.map Pu.pairD)), y4] = .ok .nx [.io (boxD ds q'), R, .val (.int m), .own (.lst ((acc ++ ex).map Pu.pairD)), y4']
  | [], acc, q, y4, hl => ⟨[], q, y4, List.Sublist.slnil, hl, by simp [forL]⟩
  | p :: ps, acc, q, y4, hl => by
    by_cases c : (acc.length : Int) < m
    · obtain ⟨d, d0, d1, e1⟩ := draw_ok ds q (many := 3) (by decide)
      by_cases c2 : d = 0
      · obtain ⟨ex, q', y4', i0, i1, i2⟩ := gauL ds R m hm ps (acc ++ [p]) (q + 1) (.val (Pu.pairD p)) (by simp; omega)
        refine ⟨p :: ex, q', y4', i0.cons₂ p, by simp at i1 ⊢; omega, ?_⟩
        rw [show acc ++ p :: ex = acc ++ [p] ++ ex from by simp, ← i2]
        have hb : acc.length < 1000000 := by omega
        subst c2
        simp [forL, p1__law_gauges, c, e1, hb, big]
      · obtain ⟨ex, q', y4', i0, i1, i2⟩ := gauL ds R m hm ps acc (q + 1) (.val (Pu.pairD p)) hl
        refine ⟨ex, q', y4', i0.cons p, i1, ?_⟩
        rw [← i2]
        simp [forL, p1__law_gauges, c, e1, c2, big]
    · obtain ⟨ex, q', y4', i0, i1, i2⟩ := gauL ds R m hm ps acc q (.val (Pu.pairD p)) hl
      refine ⟨ex, q', y4', i0.cons p, i1, ?_⟩
      rw [← i2]
      simp [forL, p1__law_gauges, c, big]
/-- gauges of a chart -/
structure Gau (rs : List (List Nat)) (w : Nat) (gs : List IP) : Prop where
  len : gs.length ≤ 10
  asc : gs.Pairwise fun p q => pLt p q = true
  wat : ∀ p ∈ gs, wtr rs w p = true
theorem gauges_ok {rs : List (List Nat)} {w : Nat} (gw : Wd rs w) (h7 : rs.length ≤ 7) (ds : List Int) (q : Nat) {m : Int} (hm : m ≤ 10) : ∃ (gs : List IP) (q' : Nat), Gau rs w gs ∧ m__law_gauges.run [boxD ds q, .tup (rs.map rowD), .int m] = .ok (.tup (gs.map Pu.pairD)) false [(0, boxD ds q')] := by
  obtain ⟨ws, w1, w2, w3, hw⟩ := places_ok (R := .tup (rs.map rowD)) (("123456789" : String) : Str) (rs := rs) (w := w) (fun _ _ h => ix_rowsT h) (by rw [lenD_tup, List.length_map]) gw.all (by have := gw.w7; omega) (by omega)
  obtain ⟨gs, q', y4', i0, i1, i2⟩ := gauL ds (.val (.tup (rs.map rowD))) m hm ws [] q .no (by simp)
  have ei : itemsD (.lst (ws.map Pu.pairD)) = some (ws.map Pu.pairD) := rfl
  rw [List.nil_append] at i2
  simp only [List.map_nil] at i2
  exact ⟨gs, q', ⟨by simpa using i1, w1.sublist i0, fun p hp => IsW.wtr gw ((w2 p).mp (i0.subset hp))⟩, by simp [m__law_gauges, runDef, b__law_gauges, env0, iosAt, hw, ei, i2, big]⟩
def seenO (o : Option Int) (clock : Int) : Option Int := match o with
  | none => none
  | some a => if clock < a then none else some a
theorem seenL (f : Tb) (clock : Int) (R e2 g3 : Sl) : ∀ (gs : List IP) (acc : Rd1) (y6 y7 : Sl), acc.length + gs.length ≤ 1000 → ∃ y6' y7', forL (gNm 6) p1__law_seen (gs.map Pu.pairD) [R, e2, g3, .val (.int clock), .own (tbD f), .own (.lst (acc.map readD)), y6, y7] = .ok .nx [R, e2, g3, .val (.int clock), .own (tbD f), .own (.lst ((acc ++ gs.map fun p => (p, seenO (lk f p) clock)).map readD)), y6', y7']
  | [], acc, y6, y7, _ => ⟨y6, y7, by simp [forL]⟩
  | p :: gs, acc, y6, y7, hl => by
    obtain ⟨y6', y7', ih⟩ := seenL f clock R e2 g3 gs (acc ++ [(p, seenO (lk f p) clock)]) (.val (Pu.pairD p)) (.val (optD (lk f p))) (by simp at hl ⊢; omega)
    refine ⟨y6', y7', ?_⟩
    have e : acc ++ (p :: gs).map (fun p => (p, seenO (lk f p) clock)) = acc ++ [(p, seenO (lk f p) clock)] ++ gs.map fun p => (p, seenO (lk f p) clock) := by simp
    rw [e, ← ih]
    have hb : acc.length < 1000000 := by simp at hl; omega
    have k1 := getD1_tb f p
    have et : ∀ f : Tb, tbD f = .dct (f.map fun x => (kyP x.1, D.int x.2)) := fun _ => rfl
    simp only [et] at k1
    cases c : lk f p with
    | none =>
      rw [c] at k1
      simp [forL, p1__law_seen, et, k1, c, optD, seenO, rdd, hb, big]
    | some a =>
      rw [c] at k1
      by_cases h : clock < a
      · simp [forL, p1__law_seen, et, k1, c, optD, seenO, rdd, hb, big, dIsN_int, h]
      · simp [forL, p1__law_seen, et, k1, c, optD, seenO, rdd, hb, big, dIsN_int, h]
/-- what gauges tell of an event -/
noncomputable def seeR (rs : List (List Nat)) (w : Nat) (S : Tb) (gs : List IP) (clock : Int) : Rd1 := gs.map fun p => (p, seenO (arv (nbs rs w) (stp rs w) S p) clock)
theorem seen_ok {rs : List (List Nat)} {w : Nat} (gw : Wd rs w) (h7 : rs.length ≤ 7) {S : Tb} (E : Evt rs w S) (gs : List IP) (hg : gs.length ≤ 10) (clock : Int) : m__law_seen.run [.tup (rs.map rowD), evtD S, .tup (gs.map Pu.pairD), .int clock] = .ok (rdD (seeR rs w S gs clock)) false [] := by
  obtain ⟨f', R', e1⟩ := waves_ev gw h7 E
  obtain ⟨y6, y7, h⟩ := seenL f' clock (.val (.tup (rs.map rowD))) (.val (evtD S)) (.val (.tup (gs.map Pu.pairD))) gs [] .no .no (by simp; omega)
  have er : (gs.map fun p => (p, seenO (lk f' p) clock)) = seeR rs w S gs clock := List.map_congr_left fun p _ => by rw [R'.arv]
  rw [List.nil_append, er] at h
  have ei : itemsD (.tup (gs.map Pu.pairD)) = some (gs.map Pu.pairD) := rfl
  simp only [List.map_nil] at h
  simp [-List.map_map, m__law_seen, runDef, b__law_seen, env0, iosAt, e1, ei, h, big]
theorem bentL (ds : List Int) (rD : Sl) (clock : Int) (hc : 0 ≤ clock) : ∀ (rd acc : Rd1) (q : Nat) (y4 y5 y6 : Sl), acc.length + rd.length ≤ 1000 →
    ∃ (ex : Rd1) (q' : Nat) (y4' y5' y6' : Sl), ex.map (·.1) = rd.map (·.1) ∧ (∀ x ∈ ex, x ∈ rd ∨ x.2 = none ∨ ∃ u, x.2 = some u ∧ 0 ≤ u ∧ u ≤ clock) ∧ forL (gTu (gNs (gNm 4) (gNs (gNm 5) gN0))) p1__law_bent (rd.map readD) [.io (boxD ds q), rD, .val (.int clock), .own (.lst (acc.map readD)), y4, y5, y6] = .ok .nx [.io (boxD ds q'), rD, .val (.int clock), .own (.lst ((acc ++ ex).map readD)), y4', y5', y6']
  | [], acc, q, y4, y5, y6, _ => ⟨[], q, y4, y5, y6, rfl, fun x hx => (by cases hx), by simp [forL]⟩
  | x :: rd, acc, q, y4, y5, y6, hl => by
    obtain ⟨p, t⟩ := x
    obtain ⟨d, d0, d1, e1⟩ := draw_ok ds q (many := 6) (by decide)
    have hb : acc.length < 1000000 := by simp at hl; omega
    have step : ∀ (t' : Option Int) (q0 : Nat) (z4 z5 z6 : Sl), (t' = t ∨ t' = none ∨ ∃ u, t' = some u ∧ 0 ≤ u ∧ u ≤ clock) → forL (gTu (gNs (gNm 4) (gNs (gNm 5) gN0))) p1__law_bent (((p, t) :: rd).map readD) [.io (boxD ds q), rD, .val (.int clock), .own (.lst (acc.map readD)), y4, y5, y6] = forL (gTu (gNs (gNm 4) (gNs (gNm 5) gN0))) p1__law_bent (rd.map readD) [.io (boxD ds q0), rD, .val (.int clock), .own (.lst ((acc ++ [(p, t')]).map readD)), z4, z5, z6] →
        ∃ (ex : Rd1) (q' : Nat) (y4' y5' y6' : Sl), ex.map (·.1) = ((p, t) :: rd).map (·.1) ∧ (∀ x ∈ ex, x ∈ (p, t) :: rd ∨ x.2 = none ∨ ∃ u, x.2 = some u ∧ 0 ≤ u ∧ u ≤ clock) ∧ forL (gTu (gNs (gNm 4) (gNs (gNm 5) gN0))) p1__law_bent (((p, t) :: rd).map readD) [.io (boxD ds q), rD, .val (.int clock), .own (.lst (acc.map readD)), y4, y5, y6] = .ok .nx [.io (boxD ds q'), rD, .val (.int clock), .own (.lst ((acc ++ ex).map readD)), y4', y5', y6'] := fun t' q0 z4 z5 z6 ht he => by
      obtain ⟨ex, q', y4', y5', y6', i1, i2, i3⟩ := bentL ds rD clock hc rd (acc ++ [(p, t')]) q0 z4 z5 z6 (by simp at hl ⊢; omega)
      refine ⟨(p, t') :: ex, q', y4', y5', y6', by rw [List.map_cons, List.map_cons, i1], fun x hx => ?_, ?_⟩
      · rcases List.mem_cons.mp hx with z | z
        · subst z
          rcases ht with z | z | z
          · subst z; exact .inl List.mem_cons_self
          · exact .inr (.inl z)
          · exact .inr (.inr z)
        · exact (i2 x z).imp (fun h => List.mem_cons_of_mem _ h) id
      · rw [he, i3]; simp
    by_cases c0 : d = 0
    · refine step none (q + 1) (.val (Pu.pairD p)) (.val .non) (.val (.int d)) (.inr (.inl rfl)) ?_
      subst c0
      simp [forL, rdd, p1__law_bent, e1, optD, hb, big]
    · by_cases c1 : d = 1
      · obtain ⟨u, u0, u1, e2⟩ := draw_ok ds (q + 1) (many := clock + 1) (by omega)
        refine step (some u) (q + 1 + 1) (.val (Pu.pairD p)) (.val (.int u)) (.val (.int d)) (.inr (.inr ⟨u, rfl, u0, by omega⟩)) ?_
        subst c1
        simp [forL, rdd, p1__law_bent, e1, e2, optD, hb, big]
      · refine step t (q + 1) (.val (Pu.pairD p)) (.val (optD t)) (.val (.int d)) (.inl rfl) ?_
        simp [forL, rdd, p1__law_bent, e1, c0, c1, hb, big]
/-- readings of a chart -/
structure RdOk (rs : List (List Nat)) (w : Nat) (clock : Int) (rd : Rd1) : Prop where
  len : rd.length ≤ 10
  asc : (rd.map (·.1)).Pairwise fun p q => pLt p q = true
  wat : ∀ p ∈ rd.map (·.1), wtr rs w p = true
  tm : ∀ x ∈ rd, ∀ t, x.2 = some t → 0 ≤ t ∧ t ≤ clock
theorem RdOk.nd {rs : List (List Nat)} {w : Nat} {clock : Int} {rd : Rd1} (h : RdOk rs w clock rd) : (rd.map (·.1)).Nodup := asc_nd h.asc
theorem bent_ok {rs : List (List Nat)} {w : Nat} (ds : List Int) (q : Nat) {rd : Rd1} {clock : Int} (hr : RdOk rs w clock rd) (hc : 0 ≤ clock) : ∃ (rd' : Rd1) (q' : Nat), RdOk rs w clock rd' ∧ m__law_bent.run [boxD ds q, rdD rd, .int clock] = .ok (rdD rd') false [(0, boxD ds q')] := by
  have hl := hr.len
  obtain ⟨rd', q', y4, y5, y6, i1, i0, i2⟩ := bentL ds (.val (rdD rd)) clock hc rd [] q .no .no .no (by simp; omega)
  simp only [List.map_nil, List.nil_append] at i2
  refine ⟨rd', q', ⟨?_, by rw [i1]; exact hr.asc, by rw [i1]; exact hr.wat, fun x hx t ht => ?_⟩, by simp [m__law_bent, runDef, b__law_bent, env0, iosAt, i2, big]⟩
  · have := congrArg List.length i1
    rw [List.length_map, List.length_map] at this
    omega
  · rcases i0 x hx with z | z | ⟨u, z, z0, z1⟩
    · exact hr.tm x z t ht
    · rw [z] at ht; cases ht
    · rw [z] at ht; cases ht; exact ⟨z0, z1⟩
theorem see_ok {rs : List (List Nat)} {w : Nat} (gw : Wd rs w) {S : Tb} (E : Evt rs w S) {gs : List IP} (hg : Gau rs w gs) (clock : Int) : RdOk rs w clock (seeR rs w S gs clock) := by
  have e : (seeR rs w S gs clock).map (·.1) = gs := by unfold seeR; rw [List.map_map]; exact List.map_id _
  refine ⟨by unfold seeR; rw [List.length_map]; exact hg.len, by rw [e]; exact hg.asc, by rw [e]; exact hg.wat, fun x hx t ht => ?_⟩
  obtain ⟨p, _, rfl⟩ := List.mem_map.mp hx
  have ht : seenO (arv (nbs rs w) (stp rs w) S p) clock = some t := ht
  cases c : arv (nbs rs w) (stp rs w) S p with
  | none => rw [c] at ht; cases ht
  | some a =>
    rw [c] at ht
    have ht : (if clock < a then none else some a) = some t := ht
    split at ht
    · cases ht
    · cases ht
      exact ⟨Wy.nonneg E.pos (fun p q h => stp_pos gw p q h) (arv_lst c).1, by omega⟩
theorem story_ok (ns : List Int) : ∃ (rs : List (List Nat)) (srcs : List IP) (w : Nat) (S : Tb) (gs : List IP) (clock : Int), GoodC rs srcs ∧ srcs.length ≤ 4 ∧ rs.length ≤ 5 ∧ Wd rs w ∧ EvS srcs 12 S ∧ Gau rs w gs ∧ 0 ≤ clock ∧ clock < 30 ∧
    m__law_story.run [.scr ns, .int 5] = .ok (.tup [.tup (rs.map rowD), .tup (srcs.map Pu.pairD), evtD S, rdD (seeR rs w S gs clock), .int clock]) false [] := by
  obtain ⟨rs, srcs, g, l4, l5, _, h1⟩ := chart_ok ns 0 5 (by decide)
  have h1' : m__law_chart.run [.scr ns, .int 0, .int 5] = .ok (.tup [.tup (rs.map rowD), .tup (srcs.map Pu.pairD)]) false [] := h1
  obtain ⟨w, gw⟩ := g.wd
  have h7 := g.r2
  obtain ⟨ds, hb⟩ := box_ok ns 10
  have hb : m__law_box.run [.scr ns, .int 10] = .ok (boxD ds 0) true [] := hb
  obtain ⟨S, q1, E, e1⟩ := event_ok gw g ds 0 (m := 12) (by decide)
  obtain ⟨gs, q2, g1, e2⟩ := gauges_ok gw h7 ds q1 (m := 4) (by decide)
  obtain ⟨clock, c0, c1, e3⟩ := draw_ok ds q2 (many := 30) (by decide)
  have e5 := seen_ok gw h7 (E.evt gw g) gs g1.len clock
  refine ⟨rs, srcs, w, S, gs, clock, g, l4, l5, gw, E, g1, c0, c1, ?_⟩
  simp [m__law_story, runDef, b__law_story, env0, iosAt, h1', hb, e1, e2, e3, e5, big]
end P_k27
namespace P_k27
open PySem PySem.Spec L2 Pu
open PyProof.Rows hiding St
/-! least starts, tight sources -/
@[simp] theorem io_la : m_least_arrival.io = [] := rfl
theorem tab_w {rs : List (List Nat)} {w : Nat} (g : Wd rs w) (h7 : rs.length ≤ 7) {s : IP} (hs : wtr rs w s = true) : Tab (nbs rs w) (stp rs w) [(s, 0)] := by
  have one : ∀ p t', (p, t') ∈ [(s, (0 : Int))] → p = s ∧ t' = 0 := fun p t' h => by
    have h' := List.mem_singleton.mp h
    cases h'
    exact ⟨rfl, rfl⟩
  obtain ⟨f0, R0, _⟩ := waves_gen g h7 (S := [(s, 0)]) (dictA_one s 0) (by simp) (fun p t' h => by rw [(one p t' h).1]; exact hs) (fun p t' h => by rw [(one p t' h).2]; exact Int.le_refl _)
  exact ⟨f0, R0⟩
theorem fld_srcs (rs : List (List Nat)) (srcs : List IP) : getF [(("rows" : String), D.tup (rs.map rowD)), (("sources" : String), .tup (srcs.map Pu.pairD))] (("sources" : String) : Str) = some (.tup (srcs.map Pu.pairD)) := by
  have ne : ((("sources" : String) : Str) == (("rows" : String) : Str)) = false := by decide +kernel
  unfold getF
  simp [List.lookup, ne]
theorem la_run (t : Option Int) (clock : Int) : m_least_arrival.run [optD t, .int clock] = .ok (.int (la clock t)) false [] := by
  cases t with
  | none => simp [m_least_arrival, runDef, b_least_arrival, env0, iosAt, optD, la]
  | some t => simp [m_least_arrival, runDef, b_least_arrival, env0, iosAt, optD, la, dIsN_int]
/-- the waves of the least starts -/
structure WvOk (rs : List (List Nat)) (w : Nat) (clock : Int) (rd : Rd1) (srcs : List IP) (ws : List (IP × Tb)) : Prop where
  ks : ws.map (·.1) = srcs
  at_ : ∀ s f, (s, f) ∈ ws → Tk (cells rs w) f ∧ ∀ p, lk f p = (dst (nbs rs w) (stp rs w) s p).map (lsO (nbs rs w) (stp rs w) clock rd s + ·)
theorem WvOk.lk {rs : List (List Nat)} {w : Nat} {clock : Int} {rd : Rd1} {srcs : List IP} {ws : List (IP × Tb)} (W : WvOk rs w clock rd srcs ws) {s : IP} (hs : s ∈ srcs) : ∃ f, lkw ws s = some f ∧ (s, f) ∈ ws ∧ Tk (cells rs w) f ∧ ∀ p, Pu.lk f p = (dst (nbs rs w) (stp rs w) s p).map (lsO (nbs rs w) (stp rs w) clock rd s + ·) := by
  obtain ⟨f, h1, h2⟩ := lkw_ex (ws := ws) (by rw [W.ks]; exact hs)
  exact ⟨f, h1, h2, W.at_ s f h2⟩
end P_k27
namespace P_k27
open PySem PySem.Spec L2 Pu
open PyProof.Rows hiding St
/-! reasons -/
@[simp] theorem io_cts : m_comes_too_soon.io = [] := rfl
@[simp] theorem io_isr : m_is_right.io = [] := rfl
@[simp] theorem io_isref : m_is_refutation.io = [] := rfl
@[simp] theorem io_lte : m__law_too_early.io = [] := rfl
@[simp] theorem io_lir : m__law_is_reason.io = [] := rfl
@[simp] theorem io_liref : m__law_is_refuted.io = [] := rfl
@[simp] theorem io_lar : m__law_a_reason.io = [0] := rfl
theorem cts_run (f : Tb) (rd : Rd1) (clock st : Int) (q : IP) : m_comes_too_soon.run [tbD f, tboD rd, .int clock, .int st, Pu.pairD q] = .ok (.bl (match lko rd q, lk f q with | some o, some u => decide (st + u < la clock o) | _, _ => false)) false [] := by
  have k1 := dNotIn_tb f q
  have k2 := dNotIn_tbo rd q
  have k3 := ixD_tb f q
  have k4 := ixD_tbo rd q
  cases h1 : lko rd q with
  | none =>
    rw [h1] at k2
    simp [m_comes_too_soon, runDef, b_comes_too_soon, env0, iosAt, k2]
  | some o =>
    rw [h1] at k2 k4
    have k4 : ixD (tboD rd) (Pu.pairD q) = some (optD o) := k4
    have k5 := la_run o clock
    cases h2 : lk f q with
    | none =>
      rw [h2] at k1
      simp [m_comes_too_soon, runDef, b_comes_too_soon, env0, iosAt, k1, k2]
    | some u =>
      rw [h2] at k1 k3
      have k3 : ixD (tbD f) (Pu.pairD q) = some (.int u) := k3
      simp [m_comes_too_soon, runDef, b_comes_too_soon, env0, iosAt, k1, k2, k3, k4, k5]
theorem rsn_ix0 (r : Rsn) : ixD (rsnD r) (.int 0) = some (.str (match r with | .far => (("far" : String) : Str) | .start => (("start" : String) : Str) | .rdg _ => (("reading" : String) : Str))) := by cases r <;> rfl
theorem rsn_ix1 (p : IP) : ixD (rsnD (.rdg p)) (.int 1) = some (Pu.pairD p) := rfl
@[simp] theorem sq_ff : dEq (.str (("far" : String) : Str)) (.str (("far" : String) : Str)) = some (.bl true) := (dEq_strD _ _).trans (congrArg (fun x => some (D.bl x)) (by decide +kernel : decide ((("far" : String) : Str) = (("far" : String) : Str)) = true))
@[simp] theorem sq_fs : dEq (.str (("far" : String) : Str)) (.str (("start" : String) : Str)) = some (.bl false) := (dEq_strD _ _).trans (congrArg (fun x => some (D.bl x)) (by decide +kernel : decide ((("far" : String) : Str) = (("start" : String) : Str)) = false))
@[simp] theorem sq_fr : dEq (.str (("far" : String) : Str)) (.str (("reading" : String) : Str)) = some (.bl false) := (dEq_strD _ _).trans (congrArg (fun x => some (D.bl x)) (by decide +kernel : decide ((("far" : String) : Str) = (("reading" : String) : Str)) = false))
@[simp] theorem sq_sf : dEq (.str (("start" : String) : Str)) (.str (("far" : String) : Str)) = some (.bl false) := (dEq_strD _ _).trans (congrArg (fun x => some (D.bl x)) (by decide +kernel : decide ((("start" : String) : Str) = (("far" : String) : Str)) = false))
@[simp] theorem sq_ss : dEq (.str (("start" : String) : Str)) (.str (("start" : String) : Str)) = some (.bl true) := (dEq_strD _ _).trans (congrArg (fun x => some (D.bl x)) (by decide +kernel : decide ((("start" : String) : Str) = (("start" : String) : Str)) = true))
@[simp] theorem sq_sr : dEq (.str (("start" : String) : Str)) (.str (("reading" : String) : Str)) = some (.bl false) := (dEq_strD _ _).trans (congrArg (fun x => some (D.bl x)) (by decide +kernel : decide ((("start" : String) : Str) = (("reading" : String) : Str)) = false))
@[simp] theorem sq_rf : dEq (.str (("reading" : String) : Str)) (.str (("far" : String) : Str)) = some (.bl false) := (dEq_strD _ _).trans (congrArg (fun x => some (D.bl x)) (by decide +kernel : decide ((("reading" : String) : Str) = (("far" : String) : Str)) = false))
@[simp] theorem sq_rs : dEq (.str (("reading" : String) : Str)) (.str (("start" : String) : Str)) = some (.bl false) := (dEq_strD _ _).trans (congrArg (fun x => some (D.bl x)) (by decide +kernel : decide ((("reading" : String) : Str) = (("start" : String) : Str)) = false))
@[simp] theorem sq_rr : dEq (.str (("reading" : String) : Str)) (.str (("reading" : String) : Str)) = some (.bl true) := (dEq_strD _ _).trans (congrArg (fun x => some (D.bl x)) (by decide +kernel : decide ((("reading" : String) : Str) = (("reading" : String) : Str)) = true))
theorem isr_run (f : Tb) (rd : Rd1) (clock : Int) (p : IP) (t : Int) (r : Rsn) (hp : lko rd p = some (some t)) : m_is_right.run [tbD f, tboD rd, .int clock, Pu.pairD p, rsnD r] = .ok (.bl (rightB (lk f) rd clock p t r)) false [] := by
  have k1 := dNotIn_tb f p
  have k3 := ixD_tb f p
  have k4 := ixD_tbo rd p
  rw [hp] at k4
  have k4 : ixD (tboD rd) (Pu.pairD p) = some (.int t) := k4
  have r0 := rsn_ix0 r
  cases h : lk f p with
  | none =>
    rw [h] at k1
    cases r <;> simp [m_is_right, runDef, b_is_right, env0, iosAt, k1, r0, rightB, h]
  | some v =>
    rw [h] at k1 k3
    have k3 : ixD (tbD f) (Pu.pairD p) = some (.int v) := k3
    cases r with
    | far => simp [m_is_right, runDef, b_is_right, env0, iosAt, k1, k3, k4, r0, rightB, h]
    | start => simp [m_is_right, runDef, b_is_right, env0, iosAt, k1, k3, k4, r0, rightB, h]
    | rdg q =>
      have k5 := cts_run f rd clock (t - v) q
      have k6 := rsn_ix1 q
      simp [m_is_right, runDef, b_is_right, env0, iosAt, k1, k3, k4, r0, k5, k6, rightB, h] <;> cases lko rd q <;> cases lk f q <;> rfl
theorem rightB_congr {d d' : IP → Option Int} (h : ∀ p, d p = d' p) (rd : Rd1) (clock : Int) (p : IP) (t : Int) (r : Rsn) : rightB d rd clock p t r = rightB d' rd clock p t r := by
  have : d = d' := funext h
  rw [this]
theorem lteL (f : Tb) (p : IP) (t clock : Int) (q : IP) (a s3 : Sl) : ∀ (xs : Rd1) (rd : Sl) (y8 y9 y10 : Sl), (xs.map (·.1)).Nodup →
    (match lko xs q, lk f q, lk f p with
      | some o, some u, some v => ∃ e', forL (gTu (gNs (gNm 8) (gNs (gNm 9) gN0))) p1__law_too_early (xs.map readD) [a, rd, .val (.int clock), s3, .val (Pu.pairD p), .val (.int t), .val (Pu.pairD q), .own (tbD f), y8, y9, y10] = .ok (.ret (.bl (decide (t - v + u < la clock o)))) e'
      | _, _, _ => ∃ e', forL (gTu (gNs (gNm 8) (gNs (gNm 9) gN0))) p1__law_too_early (xs.map readD) [a, rd, .val (.int clock), s3, .val (Pu.pairD p), .val (.int t), .val (Pu.pairD q), .own (tbD f), y8, y9, y10] = .ok .nx e')
  | [], rd, y8, y9, y10, _ => ⟨_, rfl⟩
  | x :: xs, rd, y8, y9, y10, hn => by
    obtain ⟨q0, o⟩ := x
    rw [List.map_cons] at hn
    obtain ⟨n1, n2⟩ := List.nodup_cons.mp hn
    have k1 := dIn_tb f q
    have k2 := dIn_tb f p
    have k3 := ixD_tb f q
    have k4 := ixD_tb f p
    by_cases c : q0 = q
    · subst c
      have e1 : lko ((q0, o) :: xs) q0 = some o := by unfold lko; simp
      have e0 : lko xs q0 = none := by
        cases z : lko xs q0 with
        | none => rfl
        | some o' => exact absurd (List.mem_map.mpr ⟨_, mem_lko z, rfl⟩) n1
      have ih := lteL f p t clock q0 a s3 xs rd (.val (Pu.pairD q0)) (.val (optD o)) y10 n2
      rw [e0] at ih
      have ih : ∃ e', forL (gTu (gNs (gNm 8) (gNs (gNm 9) gN0))) p1__law_too_early (xs.map readD) [a, rd, .val (.int clock), s3, .val (Pu.pairD p), .val (.int t), .val (Pu.pairD q0), .own (tbD f), .val (Pu.pairD q0), .val (optD o), y10] = .ok .nx e' := ih
      obtain ⟨e', ih⟩ := ih
      rw [e1]
      have eq := dEq_pair q0 q0
      cases h1 : lk f q0 with
      | none =>
        rw [h1] at k1
        exact ⟨e', by rw [← ih]; simp [forL, rdd, p1__law_too_early, eq, k1]⟩
      | some u =>
        rw [h1] at k1 k3
        have k3 : ixD (tbD f) (Pu.pairD q0) = some (.int u) := k3
        cases h2 : lk f p with
        | none =>
          rw [h2] at k2
          exact ⟨e', by rw [← ih]; simp [forL, rdd, p1__law_too_early, eq, k1, k2]⟩
        | some v =>
          rw [h2] at k2 k4
          have k4 : ixD (tbD f) (Pu.pairD p) = some (.int v) := k4
          have ed : decide (t + u < la clock o + v) = decide (t - v + u < la clock o) := decide_eq_decide.mpr (by omega)
          cases o with
          | none => exact ⟨_, by rw [← ed]; simp [forL, rdd, p1__law_too_early, eq, k1, k2, k3, k4, optD, la]; exact ⟨rfl, rfl⟩⟩
          | some o => exact ⟨_, by rw [← ed]; simp [forL, rdd, p1__law_too_early, eq, k1, k2, k3, k4, optD, la, dIsN_int]; exact ⟨rfl, rfl⟩⟩
    · have e1 : lko ((q0, o) :: xs) q = lko xs q := by
        unfold lko
        rw [List.find?_cons]
        have : decide (q0 = q) = false := decide_eq_false c
        simp only [this]
      have ih := lteL f p t clock q a s3 xs rd (.val (Pu.pairD q0)) (.val (optD o)) y10 n2
      rw [e1]
      have eq := dEq_pair q0 q
      rw [decide_eq_false c] at eq
      have st : forL (gTu (gNs (gNm 8) (gNs (gNm 9) gN0))) p1__law_too_early (((q0, o) :: xs).map readD) [a, rd, .val (.int clock), s3, .val (Pu.pairD p), .val (.int t), .val (Pu.pairD q), .own (tbD f), y8, y9, y10] = forL (gTu (gNs (gNm 8) (gNs (gNm 9) gN0))) p1__law_too_early (xs.map readD) [a, rd, .val (.int clock), s3, .val (Pu.pairD p), .val (.int t), .val (Pu.pairD q), .own (tbD f), .val (Pu.pairD q0), .val (optD o), y10] := by
        simp [forL, rdd, p1__law_too_early, eq]
      rw [st]
      exact ih
theorem lte_run {rs : List (List Nat)} {w : Nat} (g : Wd rs w) (h7 : rs.length ≤ 7) {s : IP} (hs : wtr rs w s = true) {rd : Rd1} (hn : (rd.map (·.1)).Nodup) (clock : Int) (p : IP) (t : Int) (q : IP) : m__law_too_early.run [.tup (rs.map rowD), rdD rd, .int clock, Pu.pairD s, Pu.pairD p, .int t, Pu.pairD q] = .ok (.bl (match lko rd q, dst (nbs rs w) (stp rs w) s q, dst (nbs rs w) (stp rs w) s p with | some o, some u, some v => decide (t - v + u < la clock o) | _, _, _ => false)) false [] := by
  obtain ⟨f, a1, a2⟩ := waves_one g h7 hs (t := 0) (Int.le_refl _)
  have e0 : ∀ p, lk f p = dst (nbs rs w) (stp rs w) s p := fun p => by
    rw [a1]
    cases dst (nbs rs w) (stp rs w) s p with
    | none => rfl
    | some v => exact congrArg some (Int.zero_add v)
  have h := lteL f p t clock q (.val (.tup (rs.map rowD))) (.val (Pu.pairD s)) rd (.val (rdD rd)) .no .no .no hn
  have kd := eDct_one s 0
  rw [e0, e0] at h
  cases h1 : lko rd q with
  | none =>
    rw [h1] at h
    obtain ⟨e', h⟩ := h
    simp [m__law_too_early, runDef, b__law_too_early, env0, iosAt, kd, a2, h]
  | some o =>
    cases h2 : dst (nbs rs w) (stp rs w) s q with
    | none =>
      rw [h1, h2] at h
      obtain ⟨e', h⟩ := h
      simp [m__law_too_early, runDef, b__law_too_early, env0, iosAt, kd, a2, h]
    | some u =>
      cases h3 : dst (nbs rs w) (stp rs w) s p with
      | none =>
        rw [h1, h2, h3] at h
        obtain ⟨e', h⟩ := h
        simp [m__law_too_early, runDef, b__law_too_early, env0, iosAt, kd, a2, h]
      | some v =>
        rw [h1, h2, h3] at h
        obtain ⟨e', h⟩ := h
        simp [m__law_too_early, runDef, b__law_too_early, env0, iosAt, kd, a2, h]
theorem lir_run {rs : List (List Nat)} {w : Nat} (g : Wd rs w) (h7 : rs.length ≤ 7) {s : IP} (hs : wtr rs w s = true) {rd : Rd1} (hn : (rd.map (·.1)).Nodup) (clock : Int) (p : IP) (t : Int) (r : Rsn) : m__law_is_reason.run [.tup (rs.map rowD), rdD rd, .int clock, Pu.pairD s, Pu.pairD p, .int t, rsnD r] = .ok (.bl (rightB (dst (nbs rs w) (stp rs w) s) rd clock p t r)) false [] := by
  obtain ⟨f, a1, a2⟩ := waves_one g h7 hs (t := 0) (Int.le_refl _)
  have e0 : ∀ p, lk f p = dst (nbs rs w) (stp rs w) s p := fun p => by
    rw [a1]
    cases dst (nbs rs w) (stp rs w) s p with
    | none => rfl
    | some v => exact congrArg some (Int.zero_add v)
  have kd := eDct_one s 0
  have k1 := dNotIn_tb f p
  have k2 := dIn_tb f p
  have k3 := ixD_tb f p
  rw [e0] at k1 k2 k3
  have r1 := rsn_far r
  have r2 := rsn_start r
  have r0 := rsn_ix0 r
  have ev1 : evish [D.str (("far" : String) : Str)] = false := rfl
  have ev2 : evish [D.str (("start" : String) : Str)] = false := rfl
  cases r with
  | far =>
    cases h : dst (nbs rs w) (stp rs w) s p with
    | none =>
      rw [h] at k1
      simp [m__law_is_reason, runDef, b__law_is_reason, env0, iosAt, kd, a2, big, r1, ev1, k1, rightB, h]
    | some v =>
      rw [h] at k1
      simp [m__law_is_reason, runDef, b__law_is_reason, env0, iosAt, kd, a2, big, r1, ev1, k1, rightB, h]
  | start =>
    cases h : dst (nbs rs w) (stp rs w) s p with
    | none =>
      rw [h] at k2
      simp [m__law_is_reason, runDef, b__law_is_reason, env0, iosAt, kd, a2, big, r1, r2, ev1, ev2, k2, rightB, h]
    | some v =>
      rw [h] at k2 k3
      have k3 : ixD (tbD f) (Pu.pairD p) = some (.int v) := k3
      have ed : decide (t < v) = decide (t - v < 0) := decide_eq_decide.mpr (by omega)
      simp [m__law_is_reason, runDef, b__law_is_reason, env0, iosAt, kd, a2, big, r1, r2, ev1, ev2, k2, k3, rightB, h, ed]
  | rdg q =>
    have k6 := rsn_ix1 q
    have k7 := lte_run g h7 hs hn clock p t q
    have e1 : isiD "tuple" (rsnD (.rdg q)) = some (.bl true) := rfl
    have e2 : lenD (rsnD (.rdg q)) = some (.int 2) := rfl
    have e3 : dNe (.str (("reading" : String) : Str)) (.str (("reading" : String) : Str)) = some (.bl false) := congrArg (Option.map fun k => D.bl !k) (show eqD (.str (("reading" : String) : Str)) (.str (("reading" : String) : Str)) = some true from by decide +kernel)
    have e4 : rightB (dst (nbs rs w) (stp rs w) s) rd clock p t (.rdg q) = (match lko rd q, dst (nbs rs w) (stp rs w) s q, dst (nbs rs w) (stp rs w) s p with | some o, some u, some v => decide (t - v + u < la clock o) | _, _, _ => false) := by
      unfold rightB
      dsimp only
      cases dst (nbs rs w) (stp rs w) s p <;> cases lko rd q <;> cases dst (nbs rs w) (stp rs w) s q <;> first | rfl | (simp; done)
    rw [e4]
    simp [m__law_is_reason, runDef, b__law_is_reason, env0, iosAt, kd, a2, big, r1, r2, ev1, ev2, e1, e2, e3, k6, k7, r0]
end P_k27
namespace P_k27
open PySem PySem.Spec L2 Pu
open PyProof.Rows hiding St
/-! refutations -/
noncomputable def refB (d : IP → IP → Option Int) (rd : Rd1) (clock : Int) (srcs : List IP) (p : IP) (Ls : List Rsn) : Bool := match lko rd p with
  | some (some t) => decide (Ls.length = srcs.length) && (srcs.zip Ls).all fun x => rightB (d x.1) rd clock p t x.2
  | _ => false
def srD (x : IP × Rsn) : D := .tup [Pu.pairD x.1, rsnD x.2]
theorem srd (x : IP × Rsn) : srD x = .tup [Pu.pairD x.1, rsnD x.2] := rfl
theorem zip_rsn : ∀ (ss : List IP) (Ls : List Rsn), zipL (ss.map Pu.pairD) (Ls.map rsnD) = (ss.zip Ls).map srD
  | [], _ => rfl
  | _ :: _, [] => rfl
  | s :: ss, r :: Ls => by
    have ih := zip_rsn ss Ls
    rw [List.map_cons, List.map_cons, List.zip_cons_cons, List.map_cons, zipL, ih]
    rfl
theorem zipOk_pairs (ss : List IP) : zipOk (ss.map Pu.pairD) = true := List.all_eq_true.mpr fun d hd => by
  obtain ⟨p, _, rfl⟩ := List.mem_map.mp hd
  rfl
theorem dNe_len (a b : Nat) : dNe (.int (a : Nat)) (.int (b : Nat)) = some (.bl (!decide (a = b))) := by
  show some (D.bl (!decide ((a : Int) = (b : Int)))) = _
  by_cases h : a = b
  · subst h; simp
  · have h' : (a : Int) ≠ (b : Int) := by omega
    simp [h, h']
theorem isref_run {rs : List (List Nat)} {w : Nat} {srcs : List IP} (gw : Wd rs w) (g : GoodC rs srcs) {rd : Rd1} (hn : (rd.map (·.1)).Nodup) (hl : rd.length ≤ 900) (clock : Int) (p : IP) (Ls : List Rsn) : m_is_refutation.run [chartD rs srcs, rdD rd, .int clock, Pu.pairD p, .tup (Ls.map rsnD)] = .ok (.bl (refB (fun s => dst (nbs rs w) (stp rs w) s) rd clock srcs p Ls)) false [] := by
  have h6 := g.s2
  have h3 := dcL_of (tg := gTu (gNs (gNm 6) (gNs (gNm 7) gN0))) (tst := tYs) (fk := eVar 6) (fv := eVar 7) (vs := [6, 7]) (ι := readD) (β := fun _ => true) (out := fun x => optD x.2) (ky := fun x => kyP x.1)
      (E := [.val (chartD rs srcs), .val (rdD rd), .val (.int clock), .val (Pu.pairD p), .val (.tup (Ls.map rsnD)), .no, .no, .no, .no, .no]) rd [] (fun x hx => by
        obtain ⟨q, v⟩ := x
        exact ⟨_, _, by simp [rdd]; rfl, by simp; rfl, fun _ => ⟨_, _, Pu.pairD q, by simp; rfl, by simp; rfl, rfl, by simp⟩, fun c => by cases c⟩) (by simp; omega)
  have hky : (rd.map fun x => kyP x.1).Nodup := by
    have e : (rd.map fun x => kyP x.1) = (rd.map (·.1)).map kyP := by rw [List.map_map]; rfl
    rw [e]
    exact List.Pairwise.map _ (fun a b hab z => hab ((kyP_iff a b).mp z)) hn
  rw [List.filter_eq_self.mpr (fun _ _ => rfl), fold_put rd [] hky (fun a _ h => by cases h), List.nil_append] at h3
  have h3 : cpG (gTu (gNs (gNm 6) (gNs (gNm 7) gN0))) tYs (bdK (eVar 6) (eVar 7)) [6, 7] (rd.map readD) [] [.val (chartD rs srcs), .val (rdD rd), .val (.int clock), .val (Pu.pairD p), .val (.tup (Ls.map rsnD)), .no, .no, .no, .no, .no] = .ok (tboL rd) _ := h3
  have kg := getD1_tbo rd p
  have kl1 : lenD (.tup (Ls.map rsnD)) = some (.int (Ls.length : Nat)) := by rw [lenD_tup, List.length_map]
  have kl2 : lenD (.tup (srcs.map Pu.pairD)) = some (.int (srcs.length : Nat)) := by rw [lenD_tup, List.length_map]
  have kn := dNe_len Ls.length srcs.length
  cases h : lko rd p with
  | none =>
    rw [h] at kg
    have kg : getD1 (.dct (tboL rd)) (Pu.pairD p) .non = some .non := kg
    have er : refB (fun s => dst (nbs rs w) (stp rs w) s) rd clock srcs p Ls = false := by unfold refB; rw [h]
    rw [er]
    simp [m_is_refutation, runDef, b_is_refutation, env0, iosAt, Out.nox, h3, kg]
  | some o => cases o with
    | none =>
      rw [h] at kg
      have kg : getD1 (.dct (tboL rd)) (Pu.pairD p) .non = some .non := kg
      have er : refB (fun s => dst (nbs rs w) (stp rs w) s) rd clock srcs p Ls = false := by unfold refB; rw [h]
      rw [er]
      simp [m_is_refutation, runDef, b_is_refutation, env0, iosAt, Out.nox, h3, kg]
    | some t =>
      rw [h] at kg
      have kg : getD1 (.dct (tboL rd)) (Pu.pairD p) .non = some (.int t) := kg
      by_cases c : Ls.length = srcs.length
      · have er : refB (fun s => dst (nbs rs w) (stp rs w) s) rd clock srcs p Ls = (srcs.zip Ls).all fun x => rightB (dst (nbs rs w) (stp rs w) x.1) rd clock p t x.2 := by unfold refB; rw [h]; simp [c]
        rw [decide_eq_true c] at kn
        have hz : srcs.zip Ls ≠ [] := fun z => by
          have z : (srcs.zip Ls).length = 0 := by rw [z]; rfl
          rw [List.length_zip] at z
          have := g.s1
          omega
        have h5 := lcL_of2 (tg := gTu (gNs (gNm 8) (gNs (gNm 9) gN0))) (tst := tYs) (elt := q1_is_refutation) (vs := [8, 9]) (ι := srD) (out := fun x => .bl (rightB (dst (nbs rs w) (stp rs w) x.1) rd clock p t x.2))
          (E0 := [.val (chartD rs srcs), .val (rdD rd), .val (.int clock), .val (Pu.pairD p), .val (.tup (Ls.map rsnD)), .own (.dct (tboL rd)), .no, .no, .no, .no])
          (E := [.val (chartD rs srcs), .val (rdD rd), .val (.int clock), .val (Pu.pairD p), .val (.tup (Ls.map rsnD)), .val (.dct (tboL rd)), .no, .no, .no, .no]) (srcs.zip Ls) [] hz (fun x hx F hF => by
            obtain ⟨s, r⟩ := x
            have hs := (List.of_mem_zip hx).1
            obtain ⟨f, R, e1⟩ := reached_run gw g.r2 srcs (IsW.wtr gw (g.wat s hs))
            have e2 := isr_run f rd clock p t r h
            have e2 : m_is_right.run [tbD f, .dct (tboL rd), .int clock, Pu.pairD p, rsnD r] = _ := e2
            have e3 : rightB (lk f) rd clock p t r = rightB (dst (nbs rs w) (stp rs w) s) rd clock p t r := rightB_congr (fun q => R.arv q) rd clock p t r
            rw [e3] at e2
            rcases hF with rfl | rfl
            · exact ⟨_, _, by simp [srd]; rfl, by simp; rfl, _, by simp [q1_is_refutation, e1, e2]; rfl, by simp⟩
            · exact ⟨_, _, by simp [srd]; rfl, by simp; rfl, _, by simp [q1_is_refutation, e1, e2]; rfl, by simp⟩) (by simp [List.length_zip]; omega)
        rw [List.nil_append] at h5
        have h7 : allD (.lst ((srcs.zip Ls).map fun x => .bl (rightB (dst (nbs rs w) (stp rs w) x.1) rd clock p t x.2))) = some (.bl ((srcs.zip Ls).all fun x => rightB (dst (nbs rs w) (stp rs w) x.1) rd clock p t x.2)) := by
          have e := blsOf_map ((srcs.zip Ls).map fun x => rightB (dst (nbs rs w) (stp rs w) x.1) rd clock p t x.2)
          rw [List.map_map] at e
          have e : blsOf ((srcs.zip Ls).map fun x => .bl (rightB (dst (nbs rs w) (stp rs w) x.1) rd clock p t x.2)) = _ := e
          show Option.map (fun bs => D.bl (bs.all id)) (blsOf ((srcs.zip Ls).map fun x => .bl (rightB (dst (nbs rs w) (stp rs w) x.1) rd clock p t x.2))) = _
          rw [e]
          simp
        have z1 := zipOk_pairs srcs
        have z2 := zip_rsn srcs Ls
        have kd := dIsN_int t
        have hf := fld_srcs rs srcs
        rw [er]
        simp only [chartD] at h3 h5
        simp [-lenD_tup, m_is_refutation, runDef, b_is_refutation, env0, iosAt, Out.nox, chartD, hf, h3, kg, kd, kl1, kl2, kn, z1, z2, h5, h7]
      · have er : refB (fun s => dst (nbs rs w) (stp rs w) s) rd clock srcs p Ls = false := by unfold refB; rw [h]; simp [c]
        rw [decide_eq_false c] at kn
        have kd := dIsN_int t
        have hf := fld_srcs rs srcs
        rw [er]
        simp only [chartD] at h3
        simp [-lenD_tup, m_is_refutation, runDef, b_is_refutation, env0, iosAt, Out.nox, chartD, hf, h3, kg, kd, kl1, kl2, kn]
end P_k27
namespace P_k27
open PySem PySem.Spec L2 Pu
open PyProof.Rows hiding St
/-! refutations: the law's side; reasons that are drawn -/
theorem cutL_map {α β : Type} (f : α → β) (xs : List α) (lo hi : Option Int) : cutL (xs.map f) lo hi = (cutL xs lo hi).map f := by
  unfold cutL
  rw [List.length_map, List.map_take, List.map_drop]
theorem cutL_len {α : Type} (xs : List α) (lo hi : Option Int) : (cutL xs lo hi).length ≤ xs.length := by
  unfold cutL
  rw [List.length_take, List.length_drop]
  omega
theorem lirefL {rs : List (List Nat)} {w : Nat} {srcs : List IP} (gw : Wd rs w) (g : GoodC rs srcs) {rd : Rd1} (hn : (rd.map (·.1)).Nodup) (clock : Int) {p : IP} {t : Int} (hp : lko rd p = some (some t)) (Ls : List Rsn) (hl : Ls.length = srcs.length) : ∀ (m j : Nat) (y7 : Sl), j + m = srcs.length →
    (((srcs.drop j).zip (Ls.drop j)).all (fun x => rightB (dst (nbs rs w) (stp rs w) x.1) rd clock p t x.2) = true ∧ ∃ y7', forL (gNm 7) p1__law_is_refuted (rr j m) [.val (.tup (rs.map rowD)), .val (.tup (srcs.map Pu.pairD)), .val (rdD rd), .val (.int clock), .val (Pu.pairD p), .val (.tup (Ls.map rsnD)), .own (tboD rd), y7] = .ok .nx [.val (.tup (rs.map rowD)), .val (.tup (srcs.map Pu.pairD)), .val (rdD rd), .val (.int clock), .val (Pu.pairD p), .val (.tup (Ls.map rsnD)), .own (tboD rd), y7']) ∨
    (((srcs.drop j).zip (Ls.drop j)).all (fun x => rightB (dst (nbs rs w) (stp rs w) x.1) rd clock p t x.2) = false ∧ ∃ e', forL (gNm 7) p1__law_is_refuted (rr j m) [.val (.tup (rs.map rowD)), .val (.tup (srcs.map Pu.pairD)), .val (rdD rd), .val (.int clock), .val (Pu.pairD p), .val (.tup (Ls.map rsnD)), .own (tboD rd), y7] = .ok (.ret (.bl false)) e')
  | 0, j, y7, h => by
    left
    have e : srcs.drop j = [] := List.drop_eq_nil_of_le (by omega)
    rw [e]
    exact ⟨rfl, y7, rfl⟩
  | m + 1, j, y7, h => by
    have j1 : j < srcs.length := by omega
    have j2 : j < Ls.length := by omega
    have k1 : ixD (.tup (srcs.map Pu.pairD)) (.int (j : Nat)) = some (Pu.pairD srcs[j]) := atI_natD (by rw [List.getElem?_map, List.getElem?_eq_getElem j1]; rfl)
    have k2 : ixD (.tup (Ls.map rsnD)) (.int (j : Nat)) = some (rsnD Ls[j]) := atI_natD (by rw [List.getElem?_map, List.getElem?_eq_getElem j2]; rfl)
    have k3 := ixD_tbo rd p
    rw [hp] at k3
    have k3 : ixD (tboD rd) (Pu.pairD p) = some (.int t) := k3
    have k4 := lir_run gw g.r2 (IsW.wtr gw (g.wat srcs[j] (List.getElem_mem j1))) hn clock p t Ls[j]
    have er : rr j (m + 1) = .int (j : Nat) :: rr (j + 1) m := rfl
    rw [List.drop_eq_getElem_cons j1, List.drop_eq_getElem_cons j2, List.zip_cons_cons, List.all_cons, er]
    cases c : rightB (dst (nbs rs w) (stp rs w) srcs[j]) rd clock p t Ls[j] with
    | false =>
      right
      rw [c] at k4
      exact ⟨rfl, _, by simp [-ixD_tup, forL, p1__law_is_refuted, k1, k2, k3, k4]; rfl⟩
    | true =>
      rw [c] at k4
      have st : forL (gNm 7) p1__law_is_refuted (.int (j : Nat) :: rr (j + 1) m) [.val (.tup (rs.map rowD)), .val (.tup (srcs.map Pu.pairD)), .val (rdD rd), .val (.int clock), .val (Pu.pairD p), .val (.tup (Ls.map rsnD)), .own (tboD rd), y7] = forL (gNm 7) p1__law_is_refuted (rr (j + 1) m) [.val (.tup (rs.map rowD)), .val (.tup (srcs.map Pu.pairD)), .val (rdD rd), .val (.int clock), .val (Pu.pairD p), .val (.tup (Ls.map rsnD)), .own (tboD rd), .val (.int (j : Nat))] := by
        simp [-ixD_tup, forL, p1__law_is_refuted, k1, k2, k3, k4]
      rw [st, Bool.true_and]
      exact lirefL gw g hn clock hp Ls hl m (j + 1) _ (by omega)
theorem liref_run {rs : List (List Nat)} {w : Nat} {srcs : List IP} (gw : Wd rs w) (g : GoodC rs srcs) {rd : Rd1} (hn : (rd.map (·.1)).Nodup) (clock : Int) (p : IP) (Ls : List Rsn) : m__law_is_refuted.run [.tup (rs.map rowD), .tup (srcs.map Pu.pairD), rdD rd, .int clock, Pu.pairD p, .tup (Ls.map rsnD)] = .ok (.bl (refB (fun s => dst (nbs rs w) (stp rs w) s) rd clock srcs p Ls)) false [] := by
  have h6 := g.s2
  have k0 := dict_rd hn
  have k1 := dNotIn_tbo rd p
  have k3 := ixD_tbo rd p
  have ki : isiD "tuple" (.tup (Ls.map rsnD)) = some (.bl true) := rfl
  have kl1 : lenD (.tup (Ls.map rsnD)) = some (.int (Ls.length : Nat)) := by rw [lenD_tup, List.length_map]
  have kl2 : lenD (.tup (srcs.map Pu.pairD)) = some (.int (srcs.length : Nat)) := by rw [lenD_tup, List.length_map]
  have kn := dNe_len Ls.length srcs.length
  have kr := rng1_rr srcs.length (by omega)
  cases h : lko rd p with
  | none =>
    rw [h] at k1
    have er : refB (fun s => dst (nbs rs w) (stp rs w) s) rd clock srcs p Ls = false := by unfold refB; rw [h]
    rw [er]
    simp [m__law_is_refuted, runDef, b__law_is_refuted, env0, iosAt, k0, k1]
  | some o =>
    rw [h] at k1 k3
    have k3 : ixD (tboD rd) (Pu.pairD p) = some (optD o) := k3
    cases o with
    | none =>
      have er : refB (fun s => dst (nbs rs w) (stp rs w) s) rd clock srcs p Ls = false := by unfold refB; rw [h]
      rw [er]
      simp [m__law_is_refuted, runDef, b__law_is_refuted, env0, iosAt, k0, k1, k3, optD]
    | some t =>
      have k3 : ixD (tboD rd) (Pu.pairD p) = some (.int t) := k3
      have kd := dIsN_int t
      by_cases c : Ls.length = srcs.length
      · rw [decide_eq_true c] at kn
        have er : refB (fun s => dst (nbs rs w) (stp rs w) s) rd clock srcs p Ls = (srcs.zip Ls).all fun x => rightB (dst (nbs rs w) (stp rs w) x.1) rd clock p t x.2 := by unfold refB; rw [h]; simp [c]
        rw [er]
        rcases lirefL gw g hn clock h Ls c srcs.length 0 .no (by omega) with ⟨z, y7', e⟩ | ⟨z, e', e⟩
        · rw [List.drop_zero, List.drop_zero] at z
          rw [z]
          simp [-lenD_tup, m__law_is_refuted, runDef, b__law_is_refuted, env0, iosAt, k0, k1, k3, kd, ki, kl1, kl2, kn, kr, e]
        · rw [List.drop_zero, List.drop_zero] at z
          rw [z]
          simp [-lenD_tup, m__law_is_refuted, runDef, b__law_is_refuted, env0, iosAt, k0, k1, k3, kd, ki, kl1, kl2, kn, kr, e]
      · rw [decide_eq_false c] at kn
        have er : refB (fun s => dst (nbs rs w) (stp rs w) s) rd clock srcs p Ls = false := by unfold refB; rw [h]; simp [c]
        rw [er]
        simp [-lenD_tup, m__law_is_refuted, runDef, b__law_is_refuted, env0, iosAt, k0, k1, k3, kd, ki, kl1, kl2, kn]
theorem larL {rs : List (List Nat)} {w : Nat} (g : Wd rs w) (h7 : rs.length ≤ 7) {s : IP} (hs : wtr rs w s = true) {rd : Rd1} (hn : (rd.map (·.1)).Nodup) (clock : Int) (p : IP) (t : Int) (B : D) (y7 y8 y10 y11 : Sl) : ∀ (xs : List Rsn) (y9 : Sl),
    (∃ r y9', forL (gNm 9) p2__law_a_reason (xs.map rsnD) [.io B, .val (.tup (rs.map rowD)), .val (rdD rd), .val (.int clock), .val (Pu.pairD s), .val (Pu.pairD p), .val (.int t), y7, y8, y9, y10, y11] = .ok (.ret (rsnD r)) [.io B, .val (.tup (rs.map rowD)), .val (rdD rd), .val (.int clock), .val (Pu.pairD s), .val (Pu.pairD p), .val (.int t), y7, y8, y9', y10, y11]) ∨
    (∃ y9', forL (gNm 9) p2__law_a_reason (xs.map rsnD) [.io B, .val (.tup (rs.map rowD)), .val (rdD rd), .val (.int clock), .val (Pu.pairD s), .val (Pu.pairD p), .val (.int t), y7, y8, y9, y10, y11] = .ok .nx [.io B, .val (.tup (rs.map rowD)), .val (rdD rd), .val (.int clock), .val (Pu.pairD s), .val (Pu.pairD p), .val (.int t), y7, y8, y9', y10, y11])
  | [], y9 => .inr ⟨y9, rfl⟩
  | r :: xs, y9 => by
    have k := lir_run g h7 hs hn clock p t r
    cases c : rightB (dst (nbs rs w) (stp rs w) s) rd clock p t r with
    | true =>
      rw [c] at k
      exact .inl ⟨r, _, by simp [forL, p2__law_a_reason, k]; rfl⟩
    | false =>
      rw [c] at k
      have st : forL (gNm 9) p2__law_a_reason ((r :: xs).map rsnD) [.io B, .val (.tup (rs.map rowD)), .val (rdD rd), .val (.int clock), .val (Pu.pairD s), .val (Pu.pairD p), .val (.int t), y7, y8, y9, y10, y11] = forL (gNm 9) p2__law_a_reason (xs.map rsnD) [.io B, .val (.tup (rs.map rowD)), .val (rdD rd), .val (.int clock), .val (Pu.pairD s), .val (Pu.pairD p), .val (.int t), y7, y8, .val (rsnD r), y10, y11] := by
        simp [forL, p2__law_a_reason, k]
      rw [st]
      exact larL g h7 hs hn clock p t B y7 y8 y10 y11 xs _
end P_k27
namespace P_k27
open PySem PySem.Spec L2 Pu
open PyProof.Rows hiding St
theorem lar_run {rs : List (List Nat)} {w : Nat} (g : Wd rs w) (h7 : rs.length ≤ 7) (hw1 : 1 ≤ w) {s : IP} (hs : wtr rs w s = true) {rd : Rd1} (hn : (rd.map (·.1)).Nodup) (hl : rd.length ≤ 900) (clock : Int) (p : IP) (t : Int) (ds : List Int) (q : Nat) : ∃ (r : Rsn) (q' : Nat), m__law_a_reason.run [boxD ds q, .tup (rs.map rowD), rdD rd, .int clock, Pu.pairD s, Pu.pairD p, .int t] = .ok (rsnD r) false [(0, boxD ds q')] := by
  obtain ⟨r0, h0, h00⟩ := row0 g
  have hp := g.pos
  have kl : lenD (.tup (rs.map rowD)) = some (.int (rs.length : Nat)) := by rw [lenD_tup, List.length_map]
  obtain ⟨d1, _, _, e1⟩ := draw_ok ds q (many := (rs.length : Nat)) (by omega)
  obtain ⟨d2, _, _, e2⟩ := draw_ok ds (q + 1) (many := (w : Nat)) (by omega)
  obtain ⟨d3, _, _, e3⟩ := draw_ok ds (q + 1 + 1) (many := 3) (by decide)
  have h4 := lcL_of (tg := gTu (gNs (gNm 10) (gNs (gNm 11) gN0))) (tst := tYs) (elt := q1__law_a_reason) (vs := [10, 11]) (ι := readD) (β := fun _ => true) (out := fun x => .tup [.str (("reading" : String) : Str), Pu.pairD x.1])
    (E := [.io (boxD ds (q + 1 + 1)), .val (.tup (rs.map rowD)), .val (rdD rd), .val (.int clock), .val (Pu.pairD s), .val (Pu.pairD p), .val (.int t), .val (.tup [.int d1, .int d2]), .no, .no, .no, .no]) rd [] (fun x hx => by
      obtain ⟨p', v⟩ := x
      have ev : evish [D.str (("reading" : String) : Str), Pu.pairD p'] = false := rfl
      exact ⟨_, _, by simp [rdd]; rfl, by simp; rfl, fun _ => ⟨_, by simp [q1__law_a_reason, ev, big]; rfl, by simp⟩, fun c => by cases c⟩) (by simp; omega)
  rw [List.nil_append, List.filter_eq_self.mpr (fun _ _ => rfl)] at h4
  obtain ⟨xs, hxs⟩ : ∃ xs : List Rsn, xs = .far :: .start :: .rdg (d1, d2) :: rd.map fun x => .rdg x.1 := ⟨_, rfl⟩
  have hx1 : xs.length = rd.length + 3 := by rw [hxs]; simp
  obtain ⟨L, hL⟩ : ∃ L : List D, L = xs.map rsnD := ⟨_, rfl⟩
  have ka : aAdd (.lst [.tup [.str (("far" : String) : Str)], .tup [.str (("start" : String) : Str)], .tup [.str (("reading" : String) : Str), .tup [.int d1, .int d2]]]) (.lst (rd.map fun x => .tup [.str (("reading" : String) : Str), Pu.pairD x.1])) = some (.lst L) := by
    rw [aAdd_lst, if_pos (by simp [big]; omega), hL, hxs]
    simp only [List.map_cons, List.map_map]
    rfl
  have kL : lenD (.lst L) = some (.int (xs.length : Nat)) := by
    have : L.length = xs.length := by rw [hL, List.length_map]
    rw [← this]
    rfl
  have ev1 : evish [D.str (("far" : String) : Str)] = false := rfl
  have ev2 : evish [D.str (("start" : String) : Str)] = false := rfl
  have ev3 : evish [D.str (("reading" : String) : Str), .tup [.int d1, .int d2]] = false := rfl
  have ev4 : evish [D.int d1, D.int d2] = false := rfl
  have iL : itemsD (.lst L) = some L := rfl
  have last : ∀ q : Nat, ∃ (r : Rsn) (d : Int), m__law_draw.run [boxD ds q, .int (xs.length : Nat)] = .ok (.int d) false [(0, boxD ds (q + 1))] ∧ ixD (.lst L) (.int d) = some (rsnD r) := fun q => by
    obtain ⟨d, d0, d1, e⟩ := draw_ok ds q (many := (xs.length : Nat)) (by omega)
    have hd : d.toNat < xs.length := by omega
    refine ⟨xs[d.toNat], d, e, ?_⟩
    show atI L d = _
    rw [atI_ofD d0 (by rw [hL, List.length_map]; exact d1), hL, List.getElem?_map, List.getElem?_eq_getElem hd]
    rfl
  by_cases c : 0 < d3
  · rcases larL g h7 hs hn clock p t (boxD ds (q + 1 + 1 + 1)) (.val (.tup [.int d1, .int d2])) (.val (.lst L)) .no .no xs .no with ⟨r, y9', h⟩ | ⟨y9', h⟩
    · rw [← hL] at h
      exact ⟨r, q + 1 + 1 + 1, by simp [-aAdd_lst, m__law_a_reason, runDef, b__law_a_reason, env0, iosAt, kl, h0, h00, e1, e2, e3, ev1, ev2, ev3, ev4, h4, ka, c, iL, h, big]⟩
    · rw [← hL] at h
      obtain ⟨r, d, e4, k4⟩ := last (q + 1 + 1 + 1)
      exact ⟨r, q + 1 + 1 + 1 + 1, by simp [-aAdd_lst, m__law_a_reason, runDef, b__law_a_reason, env0, iosAt, kl, h0, h00, e1, e2, e3, ev1, ev2, ev3, ev4, h4, ka, c, iL, h, kL, e4, k4, big]⟩
  · obtain ⟨r, d, e4, k4⟩ := last (q + 1 + 1 + 1)
    exact ⟨r, q + 1 + 1 + 1 + 1, by simp [-aAdd_lst, m__law_a_reason, runDef, b__law_a_reason, env0, iosAt, kl, h0, h00, e1, e2, e3, ev1, ev2, ev3, ev4, h4, ka, c, kL, e4, k4, big]⟩
end P_k27
namespace P_k27
open PySem PySem.Spec L2 Pu
open PyProof.Rows hiding St
theorem seq_ok {s r : M Fl} {e e1 : En} (h : s e = .ok .nx e1) : sSeq s r e = r e1 := by rw [ap_sSeq, h]; rfl
theorem w_pos {rs : List (List Nat)} {w : Nat} {srcs : List IP} (gw : Wd rs w) (g : GoodC rs srcs) : 1 ≤ w := by
  obtain ⟨w', a1, _, a3⟩ := g.w
  have hp := gw.pos
  have e1 := gw.all rs[0] (List.getElem_mem (by omega))
  have e2 := (a3 rs[0] (List.getElem_mem (by omega))).1
  omega
theorem len_rdN (rd : Rd1) : lenD (rdD rd) = some (.int (rd.length : Nat)) := by
  cases rd with
  | nil => rfl
  | cons x xs => show lenD (.tup ((x :: xs).map readD)) = _; rw [lenD_tup, List.length_map]
theorem ix_rdN (rd : Rd1) {d : Int} (h0 : 0 ≤ d) (h1 : d < rd.length) : ∃ x ∈ rd, ixD (rdD rd) (.int d) = some (readD x) := by
  have hd : d.toNat < rd.length := by omega
  cases rd with
  | nil => simp at hd
  | cons x xs =>
    refine ⟨(x :: xs)[d.toNat], List.getElem_mem hd, ?_⟩
    show atI ((x :: xs).map readD) d = _
    rw [atI_ofD h0 (by rw [List.length_map]; exact h1), List.getElem?_map, List.getElem?_eq_getElem hd]
    rfl
theorem larC {rs : List (List Nat)} {w : Nat} (g : Wd rs w) (h7 : rs.length ≤ 7) (hw1 : 1 ≤ w) {rd : Rd1} (hn : (rd.map (·.1)).Nodup) (hl : rd.length ≤ 900) (clock : Int) (p : IP) (t : Int) (ds : List Int) (a s2 s3 s4 C y8 y12 y13 y14 : Sl) : ∀ (ss : List IP) (acc : List Rsn) (q : Nat), (∀ s ∈ ss, wtr rs w s = true) → acc.length + ss.length ≤ 900 →
    ∃ (Ls : List Rsn) (q' : Nat), Ls.length = ss.length ∧ lcL (gNm 15) tYs q1_law [15] (ss.map Pu.pairD) (acc.map rsnD) [a, .val (.tup (rs.map rowD)), s2, s3, s4, .val (.int clock), C, .own (boxD ds q), y8, .val (rdD rd), .val (Pu.pairD p), .val (.int t), y12, y13, y14, .no] = .ok (.lst ((acc ++ Ls).map rsnD)) [a, .val (.tup (rs.map rowD)), s2, s3, s4, .val (.int clock), C, .own (boxD ds q'), y8, .val (rdD rd), .val (Pu.pairD p), .val (.int t), y12, y13, y14, .no]
  | [], acc, q, _, _ => ⟨[], q, rfl, by simp [lcL]⟩
  | s :: ss, acc, q, hs, hb => by
    obtain ⟨r, q1, e⟩ := lar_run g h7 hw1 (hs s List.mem_cons_self) hn hl clock p t ds q
    obtain ⟨Ls, q', i1, i2⟩ := larC g h7 hw1 hn hl clock p t ds a s2 s3 s4 C y8 y12 y13 y14 ss (acc ++ [r]) q1 (fun x hx => hs x (List.mem_cons_of_mem _ hx)) (by simp at hb ⊢; omega)
    refine ⟨r :: Ls, q', by simp [i1], ?_⟩
    have hbig : acc.length < big := by simp [big] at hb ⊢; omega
    rw [show acc ++ r :: Ls = acc ++ [r] ++ Ls from by simp, ← i2]
    simp [lcL, q1_law, e, hbig, Out.nox]
theorem pass_ok {rs : List (List Nat)} {w : Nat} {srcs : List IP} (gw : Wd rs w) (g : GoodC rs srcs) {rd : Rd1} {clock : Int} (R : RdOk rs w clock rd) (hc : 0 ≤ clock) (ds : List Int) (q : Nat) (a s3 C y8 y9 y10 y11 y12 y13 y14 y15 : Sl) (hC : C = .own (chartD rs srcs) ∨ C = .val (chartD rs srcs)) :
    ∃ (q' : Nat) (z9 z10 z11 z12 z13 z14 z15 : Sl), p2_law [a, .val (.tup (rs.map rowD)), .val (.tup (srcs.map Pu.pairD)), s3, .val (rdD rd), .val (.int clock), C, .own (boxD ds q), y8, y9, y10, y11, y12, y13, y14, y15] = .ok .nx [a, .val (.tup (rs.map rowD)), .val (.tup (srcs.map Pu.pairD)), s3, .val (rdD rd), .val (.int clock), .val (chartD rs srcs), .own (boxD ds q'), y8, z9, z10, z11, z12, z13, z14, z15] := by
  have h6 := g.s2
  have h7 := g.r2
  have hw1 := w_pos gw g
  obtain ⟨rd', q1, R', e1⟩ := bent_ok ds q R hc
  have hl' := R'.len
  obtain ⟨ws, w1, w2, w3, hw⟩ := places_ok (R := .tup (rs.map rowD)) (("123456789" : String) : Str) (rs := rs) (w := w) (fun _ _ h => ix_rowsT h) (by rw [lenD_tup, List.length_map]) gw.all (by have := gw.w7; omega) (by omega)
  have hws : ws ≠ [] := fun z => by
    obtain ⟨s, hs⟩ := List.exists_mem_of_length_pos (show 0 < srcs.length from g.s1)
    have := (w2 s).mpr (g.wat s hs)
    rw [z] at this
    cases this
  obtain ⟨p0, ws', rfl⟩ := List.exists_cons_of_ne_nil hws
  have k0 : ixD (.lst ((p0 :: ws').map Pu.pairD)) (.int 0) = some (Pu.pairD p0) := by
    show atI ((p0 :: ws').map Pu.pairD) ((0 : Nat) : Int) = _
    exact atI_natD rfl
  simp only [List.map_cons] at hw k0
  have kl := len_rdN rd'
  have kd := dict_rd R'.nd
  have isd : isDct (tboD rd') = true := rfl
  -- the gauge
  have key : ∀ (p : IP) (q2 : Nat), ∃ (t : Int) (Ls : List Rsn) (q3 q4 : Nat) (d : Int), Ls.length = srcs.length ∧
      (getD1 (tboD rd') (Pu.pairD p) .non = some (.int t) ∨ (getD1 (tboD rd') (Pu.pairD p) .non = some .non ∧ t = clock)) ∧
      lcL (gNm 15) tYs q1_law [15] (srcs.map Pu.pairD) [] [a, .val (.tup (rs.map rowD)), .val (.tup (srcs.map Pu.pairD)), s3, .val (rdD rd), .val (.int clock), C, .own (boxD ds q2), y8, .val (rdD rd'), .val (Pu.pairD p), .val (.int t), y12, y13, y14, .no] = .ok (.lst (Ls.map rsnD)) [a, .val (.tup (rs.map rowD)), .val (.tup (srcs.map Pu.pairD)), s3, .val (rdD rd), .val (.int clock), C, .own (boxD ds q3), y8, .val (rdD rd'), .val (Pu.pairD p), .val (.int t), y12, y13, y14, .no] ∧
      m__law_draw.run [boxD ds q3, .int 8] = .ok (.int d) false [(0, boxD ds q4)] := fun p q2 => by
    have kg := getD1_tbo rd' p
    obtain ⟨t, ht⟩ : ∃ t : Int, getD1 (tboD rd') (Pu.pairD p) .non = some (.int t) ∨ (getD1 (tboD rd') (Pu.pairD p) .non = some .non ∧ t = clock) := by
      cases h : (lko rd' p).join with
      | none => rw [h] at kg; exact ⟨clock, .inr ⟨kg, rfl⟩⟩
      | some t => rw [h] at kg; exact ⟨t, .inl kg⟩
    obtain ⟨Ls, q3, l1, l2⟩ := larC gw h7 hw1 R'.nd (by omega) clock p t ds a (.val (.tup (srcs.map Pu.pairD))) s3 (.val (rdD rd)) C y8 y12 y13 y14 srcs [] q2 (fun s hs => IsW.wtr gw (g.wat s hs)) (by simp; omega)
    obtain ⟨d, _, _, e⟩ := draw_ok ds q3 (many := 8) (by decide)
    exact ⟨t, Ls, q3, q3 + 1, d, l1, ht, l2, e⟩
  have fin : ∀ (p : IP) (Ls : List Rsn), ∃ b : Bool, m_is_refutation.run [chartD rs srcs, rdD rd', .int clock, Pu.pairD p, .tup (Ls.map rsnD)] = .ok (.bl b) false [] ∧ m__law_is_refuted.run [.tup (rs.map rowD), .tup (srcs.map Pu.pairD), rdD rd', .int clock, Pu.pairD p, .tup (Ls.map rsnD)] = .ok (.bl b) false [] ∧ m__law_same.run [.bl b, .bl b] = .ok (.bl true) false [] := fun p Ls =>
    ⟨_, isref_run gw g R'.nd (by omega) clock p Ls, liref_run gw g R'.nd clock p Ls, same_run (d := .bl _) rfl⟩
  have tup : ∀ Ls : List Rsn, tupleD (.lst (Ls.map rsnD)) = some (.tup (Ls.map rsnD)) := fun _ => rfl
  have cut : ∀ (Ls : List Rsn) lo hi, slD (.lst (Ls.map rsnD)) lo hi = some (.lst ((cutL Ls lo hi).map rsnD)) := fun Ls lo hi => by
    show some (D.lst (cutL (Ls.map rsnD) lo hi)) = _
    rw [cutL_map]
  have app : ∀ Ls Ms : List Rsn, Ls.length + Ms.length ≤ 900 → aAdd (.lst (Ls.map rsnD)) (.lst (Ms.map rsnD)) = some (.lst ((Ls ++ Ms).map rsnD)) := fun Ls Ms h => by
    rw [aAdd_lst, if_pos (by simp [big]; omega), List.map_append]
  have main : ∀ (p : IP) (q2 : Nat), ∃ (q' : Nat) (z11 z12 z13 z14 z15 : Sl), (sSeq (sSet 11 (eGet (eB1 dictA (bVar 9)) (eVar 10) (eC .non)))
    (sSeq (sIf (tVal (eOp dIsN (eVar 11) (eC .non))) (sSet 11 (eVar 5)) sNil)
    (sSeq (sSetO 12 (eLc (gNm 15) (iAny (eVar 2)) tYs q1_law [15]))
    (sSeq (sSet 13 (mCall 2 m__law_draw (aSl 7 (aVal (eC (.int 8)) aNil))))
    (sSeq (sIf (tVal (eOp dEq (eVar 13) (eC (.int 0)))) (sSet 12 (eSl (eVar 12) (pAt (eC (.int 1))) pNo)) sNil)
    (sSeq (sIf (tVal (eOp dEq (eVar 13) (eC (.int 1)))) (sSet 12 (eOp aAdd (eVar 12) (eSl (eVar 12) pNo (pAt (eC (.int 1)))))) sNil)
    (sSeq (sSet 12 (eB1 tupleD (bVar 12)))
    (sSeq (sSet 14 (mCall 6 m__law_is_refuted (aVal (eVar 1) (aVal (eVar 2) (aVal (eVar 9) (aVal (eVar 5) (aVal (eVar 10) (aVal (eVar 12) aNil))))))))
    (sIf (tNot' (tTru (mCall 2 m__law_same (aVal (mCall 5 m_is_refutation (aVal (eVar 6) (aVal (eVar 9) (aVal (eVar 5) (aVal (eVar 10) (aVal (eVar 12) aNil)))))) (aVal (eVar 14) aNil))))) (sRet (eC (.bl false))) sNil))))))))) [a, .val (.tup (rs.map rowD)), .val (.tup (srcs.map Pu.pairD)), s3, .val (rdD rd), .val (.int clock), C, .own (boxD ds q2), y8, .val (rdD rd'), .val (Pu.pairD p), y11, y12, y13, y14, y15] = .ok .nx [a, .val (.tup (rs.map rowD)), .val (.tup (srcs.map Pu.pairD)), s3, .val (rdD rd), .val (.int clock), .val (chartD rs srcs), .own (boxD ds q'), y8, .val (rdD rd'), .val (Pu.pairD p), z11, z12, z13, z14, z15] := fun p q2 => by
    obtain ⟨t, Ls, q3, q4, d, l1, ht, l2, e⟩ := key p q2
    have dn := dIsN_int t
    by_cases c0 : d = 0
    · subst c0
      obtain ⟨b, f1, f2, f3⟩ := fin p (cutL Ls (some 1) none)
      have k1 := cut Ls (some 1) none
      have k2 := tup (cutL Ls (some 1) none)
      refine ⟨q4, .val (.int t), .val (.tup ((cutL Ls (some 1) none).map rsnD)), .val (.int 0), .val (.bl b), .no, ?_⟩
      rcases ht with ht | ⟨ht, rfl⟩ <;> rcases hC with rfl | rfl <;> simp [kd, isd, ht, dn, l2, e, k1, k2, f1, f2, f3, big]
    · by_cases c1 : d = 1
      · subst c1
        obtain ⟨b, f1, f2, f3⟩ := fin p (Ls ++ cutL Ls none (some 1))
        have k1 := cut Ls none (some 1)
        have k3 := app Ls (cutL Ls none (some 1)) (by have := cutL_len Ls none (some 1); omega)
        have k2 := tup (Ls ++ cutL Ls none (some 1))
        refine ⟨q4, .val (.int t), .val (.tup ((Ls ++ cutL Ls none (some 1)).map rsnD)), .val (.int 1), .val (.bl b), .no, ?_⟩
        rcases ht with ht | ⟨ht, rfl⟩ <;> rcases hC with rfl | rfl <;> simp [-aAdd_lst, -List.map_append, kd, isd, ht, dn, l2, e, k1, k2, k3, f1, f2, f3, big]
      · obtain ⟨b, f1, f2, f3⟩ := fin p Ls
        have k2 := tup Ls
        refine ⟨q4, .val (.int t), .val (.tup (Ls.map rsnD)), .val (.int d), .val (.bl b), .no, ?_⟩
        rcases ht with ht | ⟨ht, rfl⟩ <;> rcases hC with rfl | rfl <;> simp [kd, isd, ht, dn, l2, e, k2, c0, c1, f1, f2, f3, big]
  have s1 : (sSet 9 (mCall 3 m__law_bent (aSl 7 (aVal (eVar 4) (aVal (eVar 5) aNil))))) [a, .val (.tup (rs.map rowD)), .val (.tup (srcs.map Pu.pairD)), s3, .val (rdD rd), .val (.int clock), C, .own (boxD ds q), y8, y9, y10, y11, y12, y13, y14, y15] = .ok .nx [a, .val (.tup (rs.map rowD)), .val (.tup (srcs.map Pu.pairD)), s3, .val (rdD rd), .val (.int clock), C, .own (boxD ds q1), y8, .val (rdD rd'), y10, y11, y12, y13, y14, y15] := by simp [e1]
  have s2 : (sSet 10 (eIx (mCallO 2 m__law_places (aVal (eVar 1) (aVal (eC (.str "123456789")) aNil))) (eC (.int 0)))) [a, .val (.tup (rs.map rowD)), .val (.tup (srcs.map Pu.pairD)), s3, .val (rdD rd), .val (.int clock), C, .own (boxD ds q1), y8, .val (rdD rd'), y10, y11, y12, y13, y14, y15] = .ok .nx [a, .val (.tup (rs.map rowD)), .val (.tup (srcs.map Pu.pairD)), s3, .val (rdD rd), .val (.int clock), C, .own (boxD ds q1), y8, .val (rdD rd'), .val (Pu.pairD p0), y11, y12, y13, y14, y15] := by simp [hw, k0]
  have s3' : ∃ (p : IP) (q2 : Nat), (sIf (tAnd' (tVal (eOp iGt (eB1 lenD (bVar 9)) (eC (.int 0)))) (tVal (eOp iGt (mCall 2 m__law_draw (aSl 7 (aVal (eC (.int 5)) aNil))) (eC (.int 0))))) (sSet 10 (eIx (eIxV 9 (mCall 2 m__law_draw (aSl 7 (aVal (eB1 lenD (bVar 9)) aNil)))) (eC (.int 0)))) sNil) [a, .val (.tup (rs.map rowD)), .val (.tup (srcs.map Pu.pairD)), s3, .val (rdD rd), .val (.int clock), C, .own (boxD ds q1), y8, .val (rdD rd'), .val (Pu.pairD p0), y11, y12, y13, y14, y15] = .ok .nx [a, .val (.tup (rs.map rowD)), .val (.tup (srcs.map Pu.pairD)), s3, .val (rdD rd), .val (.int clock), C, .own (boxD ds q2), y8, .val (rdD rd'), .val (Pu.pairD p), y11, y12, y13, y14, y15] := by
    by_cases c : 0 < rd'.length
    · obtain ⟨d5, _, _, e5⟩ := draw_ok ds q1 (many := 5) (by decide)
      by_cases c5 : 0 < d5
      · obtain ⟨dx, x0, x1, ex⟩ := draw_ok ds (q1 + 1) (many := (rd'.length : Nat)) (by omega)
        obtain ⟨x, hx, k1⟩ := ix_rdN rd' x0 x1
        have k2 : ixD (readD x) (.int 0) = some (Pu.pairD x.1) := rfl
        exact ⟨x.1, q1 + 1 + 1, by simp [kl, c, e5, c5, ex, k1, k2]⟩
      · exact ⟨p0, q1 + 1, by simp [kl, c, e5, c5]⟩
    · exact ⟨p0, q1, by simp [kl, c]⟩
  obtain ⟨p, q2, s3'⟩ := s3'
  obtain ⟨q', z11, z12, z13, z14, z15, m⟩ := main p q2
  refine ⟨q', .val (rdD rd'), .val (Pu.pairD p), z11, z12, z13, z14, z15, ?_⟩
  unfold p2_law
  rw [seq_ok s1, seq_ok s2, seq_ok s3']
  exact m
theorem law_true (ns : List Int) (hn : ns.length ≤ 63) : m_law.run [.scr ns] = .ok (.bl true) false [] := by
  obtain ⟨rs, srcs, w, S, gs, clock, g, l4, l5, gw, E, hg, c0, c1, h1⟩ := story_ok ns
  have R := see_ok gw (E.evt gw g) hg clock
  have h2 := init_ok g
  obtain ⟨ds, hb⟩ := box_ok ns 11
  have hb : m__law_box.run [.scr ns, .int 11] = .ok (boxD ds 0) true [] := hb
  obtain ⟨q1, z9, z10, z11, z12, z13, z14, z15, t1⟩ := pass_ok gw g R c0 ds 0 (.val (.scr ns)) (.val (evtD S)) (.own (chartD rs srcs)) (.val (.int 0)) .no .no .no .no .no .no .no (.inl rfl)
  obtain ⟨q2, z9', z10', z11', z12', z13', z14', z15', t2⟩ := pass_ok gw g R c0 ds q1 (.val (.scr ns)) (.val (evtD S)) (.val (chartD rs srcs)) (.val (.int 1)) z9 z10 z11 z12 z13 z14 z15 (.inr rfl)
  obtain ⟨q3, z9'', z10'', z11'', z12'', z13'', z14'', z15'', t3⟩ := pass_ok gw g R c0 ds q2 (.val (.scr ns)) (.val (evtD S)) (.val (chartD rs srcs)) (.val (.int 2)) z9' z10' z11' z12' z13' z14' z15' (.inr rfl)
  have kr := rng1_rr 3 (by decide)
  have kr : rng1D (.int 3) = some [.int 0, .int 1, .int 2] := kr
  simp [m_law, runDef, b_law, env0, iosAt, h1, h2, hb, kr, forL, t1, t2, t3, big]
end P_k27
open PySem PySem.W PyProof.Rows in
set_option maxRecDepth 100000 in
set_option maxHeartbeats 0 in
theorem PySem.Challenge.cw_shorewarn_k27_refutations_checked_holds : PySem.Challenge.rw_shorewarn_k27_refutations_checked.Holds := by
  w_on; o_law; k_head; (case hw => w_witness2)
  k_fill
  refine L2.walk_of (l := PySem.Challenge.rw_shorewarn_k27_refutations_checked) (n := 63) (k := 10) (x := "script") (CX := fun w => L2.CX (PySem.Challenge.rw_shorewarn_k27_refutations_checked).prog w) (sp := fun w => Pu.spLaw _) rfl (by decide) rfl ⟨rfl, by decide, by decide⟩ (fun w h Y => PySem.W.kIn_of Y) ?F (fun _ _ a ns hl hO hS => ⟨a, ns, rfl, hS, hl, hO, fun _ => rfl⟩) (fun w H s e s' h => Pu.cx_false h)
  case F =>
    intro w mg fa h KX G hmg
    refine' Pu.law_mk (x := "law") (P_k27.all_mk KX G ?gC_ShoreError ?gC_BadChart ?gC_Chart ?no_Chart_rows ?no_Chart_sources ?pg_Chart ?hd_Chart ?po_Chart ?sa_Chart ?mk_Chart ?kc_Chart ?fa_has_signs_only ?fl_has_signs_only ?fc_has_signs_only ?fk_has_signs_only ?fa_are_rows ?fl_are_rows ?fc_are_rows ?fk_are_rows ?fa_is_ascending ?fl_is_ascending ?fc_is_ascending ?fk_is_ascending ?fa_is_inside ?fl_is_inside ?fc_is_inside ?fk_is_inside ?fa_has_sign ?fl_has_sign ?fc_has_sign ?fk_has_sign ?fa_are_sources ?fl_are_sources ?fc_are_sources ?fk_are_sources ?fa_Chart_init ?fi_Chart_init ?fl_Chart_init ?fc_Chart_init ?fk_Chart_init ?fa_is_water ?fl_is_water ?fc_is_water ?fk_is_water ?fa_beside ?fl_beside ?fc_beside ?fk_beside ?fa_water_beside ?fl_water_beside ?fc_water_beside ?fk_water_beside ?fa_crossing_minutes ?fl_crossing_minutes ?fc_crossing_minutes ?fk_crossing_minutes ?fa_step_minutes ?fl_step_minutes ?fc_step_minutes ?fk_step_minutes ?fa_reached_times ?fl_reached_times ?fc_reached_times ?fk_reached_times ?fa_least_arrival ?fl_least_arrival ?fc_least_arrival ?fk_least_arrival ?fa_comes_too_soon ?fl_comes_too_soon ?fc_comes_too_soon ?fk_comes_too_soon ?fa_is_right ?fl_is_right ?fc_is_right ?fk_is_right ?fa_is_refutation ?fl_is_refutation ?fc_is_refutation ?fk_is_refutation ?fa__law_is_integer ?fl__law_is_integer ?fc__law_is_integer ?fk__law_is_integer ?fa__law_same ?fl__law_same ?fc__law_same ?fk__law_same ?fa__law_cell ?fl__law_cell ?fc__law_cell ?fk__law_cell ?fa__law_digits ?fl__law_digits ?fc__law_digits ?fk__law_digits ?fa__law_box ?fl__law_box ?fc__law_box ?fk__law_box ?fa__law_draw ?fl__law_draw ?fc__law_draw ?fk__law_draw ?fa__law_near ?fl__law_near ?fc__law_near ?fk__law_near ?fa__law_places ?fl__law_places ?fc__law_places ?fk__law_places ?fa__law_minutes ?fl__law_minutes ?fc__law_minutes ?fk__law_minutes ?fa__law_chart ?fl__law_chart ?fc__law_chart ?fk__law_chart ?fa__law_waves ?fl__law_waves ?fc__law_waves ?fk__law_waves ?fa__law_event ?fl__law_event ?fc__law_event ?fk__law_event ?fa__law_gauges ?fl__law_gauges ?fc__law_gauges ?fk__law_gauges ?fa__law_seen ?fl__law_seen ?fc__law_seen ?fk__law_seen ?fa__law_story ?fl__law_story ?fc__law_story ?fk__law_story ?fa__law_bent ?fl__law_bent ?fc__law_bent ?fk__law_bent ?fa__law_too_early ?fl__law_too_early ?fc__law_too_early ?fk__law_too_early ?fa__law_is_reason ?fl__law_is_reason ?fc__law_is_reason ?fk__law_is_reason ?fa__law_is_refuted ?fl__law_is_refuted ?fc__law_is_refuted ?fk__law_is_refuted ?fa__law_a_reason ?fl__law_a_reason ?fc__law_a_reason ?fk__law_a_reason ?fa_law ?fl_law ?fc_law ?fk_law ?nb_all ?nb_bool ?nb_dict ?nb_int ?nb_isinstance ?nb_len ?nb_list ?nb_range ?nb_set ?nb_sorted ?nb_str ?nb_tuple ?nb_zip ?im_heappop ?im_heappush ?co_HIGH ?co_LAND ?co_MOST_SIDE ?co_MOST_SOURCES ?co_ROCK ?co_WATER ?xe_BadChart ?xk_BadChart ?xb_BadChart ?xt_BadChart ?xi_BadChart ?ss_BadChart_BadChart) (fun t => t.f_law) hmg (fun t _ _ D => P_k27.ok_law t D) P_k27.law_true rfl (fun _ _ h => h) (fun _ _ _ _ _ _ _ => rfl)
    (case gC_ShoreError => k_is)
    (case gC_BadChart => k_is)
    (case gC_Chart => k_is)
    (case no_Chart_rows => k_is)
    (case no_Chart_sources => k_is)
    (case pg_Chart => k_is)
    (case hd_Chart => k_is)
    (case po_Chart => k_is)
    (case sa_Chart => k_is)
    (case mk_Chart => k_is)
    (case kc_Chart => k_is)
    (case fa_has_signs_only => k_is)
    (case fl_has_signs_only => k_is)
    (case fc_has_signs_only => k_is)
    (case fk_has_signs_only => k_is)
    (case fa_are_rows => k_is)
    (case fl_are_rows => k_is)
    (case fc_are_rows => k_is)
    (case fk_are_rows => k_is)
    (case fa_is_ascending => k_is)
    (case fl_is_ascending => k_is)
    (case fc_is_ascending => k_is)
    (case fk_is_ascending => k_is)
    (case fa_is_inside => k_is)
    (case fl_is_inside => k_is)
    (case fc_is_inside => k_is)
    (case fk_is_inside => k_is)
    (case fa_has_sign => k_is)
    (case fl_has_sign => k_is)
    (case fc_has_sign => k_is)
    (case fk_has_sign => k_is)
    (case fa_are_sources => k_is)
    (case fl_are_sources => k_is)
    (case fc_are_sources => k_is)
    (case fk_are_sources => k_is)
    (case fa_Chart_init => k_is)
    (case fi_Chart_init => k_is)
    (case fl_Chart_init => k_is)
    (case fc_Chart_init => k_is)
    (case fk_Chart_init => k_is)
    (case fa_is_water => k_is)
    (case fl_is_water => k_is)
    (case fc_is_water => k_is)
    (case fk_is_water => k_is)
    (case fa_beside => k_is)
    (case fl_beside => k_is)
    (case fc_beside => k_is)
    (case fk_beside => k_is)
    (case fa_water_beside => k_is)
    (case fl_water_beside => k_is)
    (case fc_water_beside => k_is)
    (case fk_water_beside => k_is)
    (case fa_crossing_minutes => k_is)
    (case fl_crossing_minutes => k_is)
    (case fc_crossing_minutes => k_is)
    (case fk_crossing_minutes => k_is)
    (case fa_step_minutes => k_is)
    (case fl_step_minutes => k_is)
    (case fc_step_minutes => k_is)
    (case fk_step_minutes => k_is)
    (case fa_reached_times => k_is)
    (case fl_reached_times => k_is)
    (case fc_reached_times => k_is)
    (case fk_reached_times => k_is)
    (case fa_least_arrival => k_is)
    (case fl_least_arrival => k_is)
    (case fc_least_arrival => k_is)
    (case fk_least_arrival => k_is)
    (case fa_comes_too_soon => k_is)
    (case fl_comes_too_soon => k_is)
    (case fc_comes_too_soon => k_is)
    (case fk_comes_too_soon => k_is)
    (case fa_is_right => k_is)
    (case fl_is_right => k_is)
    (case fc_is_right => k_is)
    (case fk_is_right => k_is)
    (case fa_is_refutation => k_is)
    (case fl_is_refutation => k_is)
    (case fc_is_refutation => k_is)
    (case fk_is_refutation => k_is)
    (case fa__law_is_integer => k_is)
    (case fl__law_is_integer => k_is)
    (case fc__law_is_integer => k_is)
    (case fk__law_is_integer => k_is)
    (case fa__law_same => k_is)
    (case fl__law_same => k_is)
    (case fc__law_same => k_is)
    (case fk__law_same => k_is)
    (case fa__law_cell => k_is)
    (case fl__law_cell => k_is)
    (case fc__law_cell => k_is)
    (case fk__law_cell => k_is)
    (case fa__law_digits => k_is)
    (case fl__law_digits => k_is)
    (case fc__law_digits => k_is)
    (case fk__law_digits => k_is)
    (case fa__law_box => k_is)
    (case fl__law_box => k_is)
    (case fc__law_box => k_is)
    (case fk__law_box => k_is)
    (case fa__law_draw => k_is)
    (case fl__law_draw => k_is)
    (case fc__law_draw => k_is)
    (case fk__law_draw => k_is)
    (case fa__law_near => k_is)
    (case fl__law_near => k_is)
    (case fc__law_near => k_is)
    (case fk__law_near => k_is)
    (case fa__law_places => k_is)
    (case fl__law_places => k_is)
    (case fc__law_places => k_is)
    (case fk__law_places => k_is)
    (case fa__law_minutes => k_is)
    (case fl__law_minutes => k_is)
    (case fc__law_minutes => k_is)
    (case fk__law_minutes => k_is)
    (case fa__law_chart => k_is)
    (case fl__law_chart => k_is)
    (case fc__law_chart => k_is)
    (case fk__law_chart => k_is)
    (case fa__law_waves => k_is)
    (case fl__law_waves => k_is)
    (case fc__law_waves => k_is)
    (case fk__law_waves => k_is)
    (case fa__law_event => k_is)
    (case fl__law_event => k_is)
    (case fc__law_event => k_is)
    (case fk__law_event => k_is)
    (case fa__law_gauges => k_is)
    (case fl__law_gauges => k_is)
    (case fc__law_gauges => k_is)
    (case fk__law_gauges => k_is)
    (case fa__law_seen => k_is)
    (case fl__law_seen => k_is)
    (case fc__law_seen => k_is)
    (case fk__law_seen => k_is)
    (case fa__law_story => k_is)
    (case fl__law_story => k_is)
    (case fc__law_story => k_is)
    (case fk__law_story => k_is)
    (case fa__law_bent => k_is)
    (case fl__law_bent => k_is)
    (case fc__law_bent => k_is)
    (case fk__law_bent => k_is)
    (case fa__law_too_early => k_is)
    (case fl__law_too_early => k_is)
    (case fc__law_too_early => k_is)
    (case fk__law_too_early => k_is)
    (case fa__law_is_reason => k_is)
    (case fl__law_is_reason => k_is)
    (case fc__law_is_reason => k_is)
    (case fk__law_is_reason => k_is)
    (case fa__law_is_refuted => k_is)
    (case fl__law_is_refuted => k_is)
    (case fc__law_is_refuted => k_is)
    (case fk__law_is_refuted => k_is)
    (case fa__law_a_reason => k_is)
    (case fl__law_a_reason => k_is)
    (case fc__law_a_reason => k_is)
    (case fk__law_a_reason => k_is)
    (case fa_law => k_is)
    (case fl_law => k_is)
    (case fc_law => k_is)
    (case fk_law => k_is)
    (case nb_all => k_is)
    (case nb_bool => k_is)
    (case nb_dict => k_is)
    (case nb_int => k_is)
    (case nb_isinstance => k_is)
    (case nb_len => k_is)
    (case nb_list => k_is)
    (case nb_range => k_is)
    (case nb_set => k_is)
    (case nb_sorted => k_is)
    (case nb_str => k_is)
    (case nb_tuple => k_is)
    (case nb_zip => k_is)
    (case im_heappop => k_is)
    (case im_heappush => k_is)
    (case co_HIGH => k_is)
    (case co_LAND => k_is)
    (case co_MOST_SIDE => k_is)
    (case co_MOST_SOURCES => k_is)
    (case co_ROCK => k_is)
    (case co_WATER => k_is)
    (case xe_BadChart => k_exc)
    (case xk_BadChart => k_is)
    (case xb_BadChart => k_is)
    (case xt_BadChart => k_is)
    (case xi_BadChart => k_is)
    (case ss_BadChart_BadChart => first | rfl | k_is)
