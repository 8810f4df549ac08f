import PyProof.Rows.All
import Wide.All
import OpenK.AllK
import Wide.FinOn
import HandS.ForMost
import HandS.Evl
import HandS.Conv
import HandS.More
import HandS.Deep
import HandS.Steps
import HandS.Style
import HandS.Zip
import HandS.Replace
import HandS.Star
import KE.GoesMore
import KE.KDictZip
import KE.KItemsList
import HandS.List
import KE.KRevSl
import HandS.Sort
import KE.GoesEnumKw
import HandS.Iter
import KE.LtData
import HandS.SortKw
import KE.DataMinKey
import HandS.OwnIter
import KE.DataMinMax
import HandS.TupMul
import HandS.TupAny
import KE.GoesEnum
import HandS.Strs
import HandS.SetBool
import HandS.Flow
import HandS.TupLen
import KE.KExcSuper
import HandS.ExcInit
import HandS.Nested
import HandS.FStr
import HandS.Exc
import HandS.ExcOwn
import HandS.ExcField
import HandS.WordsExc
import KE.RegKSuper
import KE.KTryMore
import KE.SortData
import HandS.CallLocal
import KE.KxIndex
import HandS.Defaults
import HandS.MakeKwOnly
import KE.KDictSum
import HandS.ForDict
import HandS.Comp
import HandS.Dict
import HandS.DictComp
import HandS.Small
import PyProof.P3Eq
import PyProof.Claim2Refuses
import KE.KDictWalk
import HandS.SetKeys
import PyProof.EnumMake
import KE.KDictDisplayH
import KE.KExcIs
import KE.KeyNested
import KE.GoesRaise
import HandS.Text
import HandS.Property
import HandS.New
import KE.SortKeyHeap
import HandS.IterVal
import KE.KOwnIter
import HandS.IsInst
import KE.KAssignIn
import HandS.OwnEq
import PyProof.CollectIter
import PyProof.WalksMore
import PyProof.Rows.TupIter
import HandS.TupLe
import OpenK.KMeth
import HandS.Codes
import PySem.Challenge.RW_sewnwhole_k65_limits_of_a_workroom
set_option Elab.async false
set_option linter.all false
set_option maxRecDepth 100000
set_option maxHeartbeats 4000000
namespace G
open PySem PySem.W PyProof.Rows in
set_option maxHeartbeats 0 in
theorem law_top (h : PySem.Challenge.rw_sewnwhole_k65_limits_of_a_workroom.row.wellSaid = true → PySem.Challenge.rw_sewnwhole_k65_limits_of_a_workroom.row.Holds) : PySem.Challenge.rw_sewnwhole_k65_limits_of_a_workroom.Holds := by
  w_on; o_law; exact h (by assumption)
end G
namespace DD
open PySem PySem.Spec PyProof.Rows L2 Evl

inductive D where
  | non | bl (b : Bool) | int (i : Int) | str (x : Str) | lst (ds : List D) | tup (ds : List D) | dic (ks : List Key) (ds : List D) | dit (ks : List (List Key)) (ds : List D) | fn (x : Str) | ctp (ds : List D)

mutual
inductive Rp (K : PySem.W.Frag) (H : Hp) : V → D → Prop
  | non : Rp K H .non .non
  | bl (b : Bool) : Rp K H (.bl b) (.bl b)
  | int (i : Int) : Rp K H (.int i) (.int i)
  | str (x : Str) : Rp K H (.str x) (.str x)
  | lst {a : Addr} {xs : List V} {ds : List D} : SqL K H a xs → RpAll K H xs ds → Rp K H (.ref a) (.lst ds)
  | tup {a : Addr} {xs : List V} {ds : List D} : H a = some (.tup xs) → RpAll K H xs ds → Rp K H (.ref a) (.tup ds)
  | ctp {a : Addr} {xs : List V} {ds : List D} : SqT K H a xs → RpAll K H xs ds → Rp K H (.ref a) (.ctp ds)
  | dic {a : Addr} {kvs : List (Key × V)} {ds : List D} : Rd H a (.dK kvs) → RpAll K H (kvs.map (·.2)) ds → Rp K H (.ref a) (.dic (kvs.map (·.1)) ds)
  | dit {a : Addr} {kvs : List (List Key × V)} {ds : List D} : Rd H a (.dT kvs) → RpAll K H (kvs.map (·.2)) ds → Rp K H (.ref a) (.dit (kvs.map (·.1)) ds)
  | fn {a : Addr} (x : Str) : PySem.W.nsIn K mainGlobals x = some (some (.ref a)) → Rp K H (.ref a) (.fn x)
inductive RpAll (K : PySem.W.Frag) (H : Hp) : List V → List D → Prop
  | nil : RpAll K H [] []
  | cons {v : V} {vs : List V} {d : D} {ds : List D} : Rp K H v d → RpAll K H vs ds → RpAll K H (v :: vs) (d :: ds)
end

section
variable {K : PySem.W.Frag} {H H' B B' : Hp}
mutual
theorem Rp.ex (e : Ex H H') : ∀ (d : D) (v : V), Rp K H v d → Rp K H' v d
  | .non, _, h => by cases h; exact .non
  | .bl _, _, h => by cases h; exact .bl _
  | .int _, _, h => by cases h; exact .int _
  | .str _, _, h => by cases h; exact .str _
  | .lst ds, _, h => by cases h with | lst a b => exact .lst (ex_l e a) (RpAll.ex e ds _ b)
  | .tup ds, _, h => by cases h with | tup a b => exact .tup (e _ _ a) (RpAll.ex e ds _ b)
  | .ctp ds, _, h => by cases h with | ctp a b => exact .ctp (ex_t e a) (RpAll.ex e ds _ b)
  | .dic _ ds, _, h => by cases h with | dic a b => exact .dic (ex_rd e a) (RpAll.ex e ds _ b)
  | .dit _ ds, _, h => by cases h with | dit a b => exact .dit (ex_rd e a) (RpAll.ex e ds _ b)
  | .fn _, _, h => by cases h with | fn _ a => exact .fn _ a
theorem RpAll.ex (e : Ex H H') : ∀ (ds : List D) (vs : List V), RpAll K H vs ds → RpAll K H' vs ds
  | [], _, h => by cases h; exact .nil
  | d :: ds, _, h => by cases h with | cons a b => exact .cons (Rp.ex e d _ a) (RpAll.ex e ds _ b)
end
theorem Rp.up {v : V} {d : D} (h : Rp K H v d) (e : Ex H H') : Rp K H' v d := Rp.ex e d v h
theorem RpAll.up {v : List V} {d : List D} (h : RpAll K H v d) (e : Ex H H') : RpAll K H' v d := RpAll.ex e d v h
theorem RpAll.len : ∀ {vs : List V} {ds : List D}, RpAll K H vs ds → vs.length = ds.length
  | _, _, .nil => rfl
  | _, _, .cons _ t => congrArg (· + 1) (RpAll.len t)
theorem RpAll.get : ∀ {vs : List V} {ds : List D} (i : Nat) {d : D}, RpAll K H vs ds → ds[i]? = some d → ∃ v, vs[i]? = some v ∧ Rp K H v d
  | _, _, _, _, .nil, e => by simp at e
  | _, _, 0, _, .cons r _, e => by simp at e; subst e; exact ⟨_, rfl, r⟩
  | _, _, i + 1, d, .cons _ t, e => by
    obtain ⟨v, h1, h2⟩ := RpAll.get i (d := d) t (by simpa using e)
    exact ⟨v, by simpa using h1, h2⟩
theorem RpAll.app : ∀ {vs ws : List V} {ds es : List D}, RpAll K H vs ds → RpAll K H ws es → RpAll K H (vs ++ ws) (ds ++ es)
  | _, _, _, _, .nil, s => s
  | _, _, _, _, .cons r t, s => .cons r (RpAll.app t s)
theorem RpAll.tk : ∀ {vs : List V} {ds : List D} (n : Nat), RpAll K H vs ds → RpAll K H (vs.take n) (ds.take n)
  | _, _, 0, _ => .nil
  | _, _, _ + 1, .nil => .nil
  | _, _, n + 1, .cons r t => .cons r (RpAll.tk n t)
theorem RpAll.dp : ∀ {vs : List V} {ds : List D} (n : Nat), RpAll K H vs ds → RpAll K H (vs.drop n) (ds.drop n)
  | _, _, 0, r => r
  | _, _, _ + 1, .nil => .nil
  | _, _, n + 1, .cons _ t => RpAll.dp n t
theorem RpAll.st {v : V} {d : D} (r : Rp K H v d) : ∀ {vs : List V} {ds : List D} (i : Nat), RpAll K H vs ds → RpAll K H (vs.set i v) (ds.set i d)
  | _, _, _, .nil => .nil
  | _, _, 0, .cons _ t => .cons r t
  | _, _, i + 1, .cons q t => .cons q (RpAll.st r i t)
theorem RpAll.rev : ∀ {vs : List V} {ds : List D}, RpAll K H vs ds → RpAll K H vs.reverse ds.reverse
  | _, _, .nil => .nil
  | _, _, .cons r t => by
    rw [List.reverse_cons, List.reverse_cons]
    exact (RpAll.rev t).app (.cons r .nil)

@[simp] def D.flat : D → Bool
  | .non => true | .bl _ => true | .int _ => true | .str _ => true | _ => false
def D.v : D → V
  | .non => .non | .bl b => .bl b | .int i => .int i | .str x => .str x | _ => .non
theorem Rp.flat {v : V} {d : D} (h : Rp K H v d) (f : d.flat = true) : v = d.v := by
  cases h <;> first | rfl | cases f
theorem Rp.of_flat {d : D} (f : d.flat = true) : Rp K H d.v d := by
  cases d <;> first | exact .non | exact .bl _ | exact .int _ | exact .str _ | cases f

def Mt (H : Hp) (q : Addr) : Prop := H q ≠ none ∧ ∀ xs, H q ≠ some (.tup xs)
structure Ext (B H B' H' : Hp) : Prop where
  bb : Ex B B'
  bh : Ex B' H'
  hh : Ex H H'
  st : ∀ q, Mt H q → B' q = B q
theorem Ext.refl (e : Ex B H) : Ext B H B H := ⟨Ex.refl _, e, Ex.refl _, fun _ _ => rfl⟩
theorem Ex.ne {q : Addr} (e : Ex H H') (h : H q ≠ none) : H' q ≠ none := by
  intro z
  exact h (fresh_back e z)
theorem Ex.mt {q : Addr} (e : Ex H H') (h : Mt H q) : Mt H' q := by
  refine ⟨Ex.ne e h.1, fun xs z => ?_⟩
  cases ho : H q with
  | none => exact h.1 ho
  | some o =>
    rw [e q o ho] at z
    exact h.2 xs (ho.trans z)
theorem Ext.trans {B2 H2 : Hp} (a : Ext B H B' H') (b : Ext B' H' B2 H2) : Ext B H B2 H2 :=
  ⟨a.bb.trans b.bb, b.bh, a.hh.trans b.hh, fun q h => (b.st q (Ex.mt a.hh h)).trans (a.st q h)⟩
theorem ne_some {H : Hp} {p : Addr} {o : HO} (h : H p = some o) (ht : ∀ xs, o ≠ .tup xs := by intro _ z; cases z) : Mt H p := by
  refine ⟨fun z => ?_, fun xs z => ?_⟩
  · rw [h] at z; cases z
  · rw [h] at z; exact ht xs (Option.some.inj z)
theorem Ext.tup {q : Addr} {xs : List V} (e : Ex B H) (h : H q = some (.tup xs)) : Ext B H (upd B q (.tup xs)) H := by
  refine ⟨fun a u z => ?_, fun a u z => ?_, Ex.refl _, fun p hp => upd_ne ?_⟩
  · by_cases ha : a = q
    · subst ha; rw [e a u z] at h; cases h; exact upd_same
    · rw [upd_ne ha]; exact z
  · by_cases ha : a = q
    · subst ha; rw [upd_same] at z; cases z; exact h
    · rw [upd_ne ha] at z; exact e a u z
  · rintro rfl; exact hp.2 xs h
theorem Ext.new {p : Addr} {o : HO} (e : Ex B H) (h : H p = none) : Ext B H (upd B p o) (upd H p o) := by
  refine ⟨Ex.new (fresh_back e h), fun a u q => ?_, Ex.new h, fun q hq => upd_ne ?_⟩
  · by_cases ha : a = p
    · subst ha; rw [upd_same] at q ⊢; exact q
    · rw [upd_ne ha] at q ⊢; exact e a u q
  · rintro rfl; exact hq.1 h
theorem Ext.newM {p : Addr} {o : HO} (e : Ex B H) (h : H p = none) : Ext B H B (upd H p o) :=
  ⟨Ex.refl _, e.trans (Ex.new h), Ex.new h, fun _ _ => rfl⟩

end
inductive Tr where
  | lf (d : D) | ls (ts : List Tr) | dk (ks : List Key) (ts : List Tr) | dt (ks : List (List Key)) (ts : List Tr) | ob (C : Str) (ns : List Str) (ts : List Tr)
mutual
inductive Ow (K : PySem.W.Frag) (B H : Hp) : Tr → V → List Addr → Prop
  | lf {v : V} {d : D} : Rp K B v d → Ow K B H (.lf d) v []
  | ls {a : Addr} {vs : List V} {ts : List Tr} {A : List Addr} : B a = none → H a = some (.lst vs) → OwAll K B H ts vs A → a ∉ A → Ow K B H (.ls ts) (.ref a) (a :: A)
  | dk {a : Addr} {ks : List Key} {kvs : List (Key × V)} {ts : List Tr} {A : List Addr} : B a = none → H a = some (.dK kvs) → OwAll K B H ts (kvs.map (·.2)) A → a ∉ A → kvs.map (·.1) = ks → Ow K B H (.dk ks ts) (.ref a) (a :: A)
  | dt {a : Addr} {ks : List (List Key)} {kvs : List (List Key × V)} {ts : List Tr} {A : List Addr} : B a = none → H a = some (.dT kvs) → OwAll K B H ts (kvs.map (·.2)) A → a ∉ A → kvs.map (·.1) = ks → Ow K B H (.dt ks ts) (.ref a) (a :: A)
  | ob {C : Str} {Ca a dx : Addr} {ns : List Str} {fs : List (Str × V)} {ts : List Tr} {A : List Addr} : PySem.W.nsIn K mainGlobals C = some (some (.ref Ca)) → B a = none → B dx = none → H a = some (.ins Ca dx fs) → H dx = some (.own a) → OwAll K B H ts (fs.map (·.2)) A → a ≠ dx → a ∉ A → dx ∉ A → fs.map (·.1) = ns → Ow K B H (.ob C ns ts) (.ref a) (a :: dx :: A)
inductive OwAll (K : PySem.W.Frag) (B H : Hp) : List Tr → List V → List Addr → Prop
  | nil : OwAll K B H [] [] []
  | cons {t : Tr} {v : V} {ts : List Tr} {vs : List V} {A A' : List Addr} : Ow K B H t v A → OwAll K B H ts vs A' → (∀ q ∈ A, q ∉ A') → OwAll K B H (t :: ts) (v :: vs) (A ++ A')
end
mutual
def Tr.d : Tr → Option D
  | .lf d => some d
  | .ls ts => (Tr.dAll ts).map .lst
  | .dk ks ts => (Tr.dAll ts).map (.dic ks)
  | .dt ks ts => (Tr.dAll ts).map (.dit ks)
  | .ob _ _ _ => none
def Tr.dAll : List Tr → Option (List D)
  | [] => some []
  | t :: ts => (Tr.d t).bind fun d => (Tr.dAll ts).map fun ds => d :: ds
end
section
variable {K : PySem.W.Frag} {B H B' H' : Hp}
mutual
theorem Ow.monoR (hB : ∀ (d : D) (v : V), Rp K B v d → Rp K B' v d) : ∀ (t : Tr) (v : V) (A : List Addr), Ow K B H t v A → (∀ q ∈ A, H' q = H q ∧ B' q = none) → Ow K B' H' t v A
  | .lf d, _, _, h, _ => by cases h with | lf r => exact .lf (hB _ _ r)
  | .ls ts, _, _, h, k => by
    cases h with
    | ls a b c d =>
      refine .ls (k _ List.mem_cons_self).2 ?_ (OwAll.monoR hB ts _ _ c fun q hq => k q (List.mem_cons_of_mem _ hq)) d
      rw [(k _ List.mem_cons_self).1]; exact b
  | .dk ks ts, _, _, h, k => by
    cases h with
    | dk a b c d g =>
      refine .dk (k _ List.mem_cons_self).2 ?_ (OwAll.monoR hB ts _ _ c fun q hq => k q (List.mem_cons_of_mem _ hq)) d g
      rw [(k _ List.mem_cons_self).1]; exact b
  | .dt ks ts, _, _, h, k => by
    cases h with
    | dt a b c d g =>
      refine .dt (k _ List.mem_cons_self).2 ?_ (OwAll.monoR hB ts _ _ c fun q hq => k q (List.mem_cons_of_mem _ hq)) d g
      rw [(k _ List.mem_cons_self).1]; exact b
  | .ob C ns ts, _, _, h, k => by
    cases h with
    | ob n a a2 b b2 c d e f g =>
      have k2 := k _ (List.mem_cons_of_mem _ List.mem_cons_self)
      refine .ob n (k _ List.mem_cons_self).2 k2.2 ?_ ?_ (OwAll.monoR hB ts _ _ c fun q hq => k q (List.mem_cons_of_mem _ (List.mem_cons_of_mem _ hq))) d e f g
      · rw [(k _ List.mem_cons_self).1]; exact b
      · rw [k2.1]; exact b2
theorem OwAll.monoR (hB : ∀ (d : D) (v : V), Rp K B v d → Rp K B' v d) : ∀ (ts : List Tr) (vs : List V) (A : List Addr), OwAll K B H ts vs A → (∀ q ∈ A, H' q = H q ∧ B' q = none) → OwAll K B' H' ts vs A
  | [], _, _, h, _ => by cases h; exact .nil
  | t :: ts, _, _, h, k => by
    cases h with
    | cons a b c => exact .cons (Ow.monoR hB t _ _ a fun q hq => k q (List.mem_append_left _ hq)) (OwAll.monoR hB ts _ _ b fun q hq => k q (List.mem_append_right _ hq)) c
end
theorem Ow.mono (hB : Ex B B') (t : Tr) (v : V) (A : List Addr) (w : Ow K B H t v A) (k : ∀ q ∈ A, H' q = H q ∧ B' q = none) : Ow K B' H' t v A := Ow.monoR (fun d v r => r.up hB) t v A w k
theorem OwAll.mono (hB : Ex B B') (t : List Tr) (v : List V) (A : List Addr) (w : OwAll K B H t v A) (k : ∀ q ∈ A, H' q = H q ∧ B' q = none) : OwAll K B' H' t v A := OwAll.monoR (fun d v r => r.up hB) t v A w k
mutual
theorem Ow.free : ∀ (t : Tr) (v : V) (A : List Addr), Ow K B H t v A → ∀ q ∈ A, B q = none ∧ Mt H q
  | .lf d, _, _, h, q, hq => by cases h; exact absurd hq List.not_mem_nil
  | .ls ts, _, _, h, q, hq => by
    cases h with
    | ls a b c d =>
      rcases List.mem_cons.mp hq with rfl | hq
      · exact ⟨a, ne_some b⟩
      · exact OwAll.free ts _ _ c q hq
  | .dk ks ts, _, _, h, q, hq => by
    cases h with
    | dk a b c d g =>
      rcases List.mem_cons.mp hq with rfl | hq
      · exact ⟨a, ne_some b⟩
      · exact OwAll.free ts _ _ c q hq
  | .dt ks ts, _, _, h, q, hq => by
    cases h with
    | dt a b c d g =>
      rcases List.mem_cons.mp hq with rfl | hq
      · exact ⟨a, ne_some b⟩
      · exact OwAll.free ts _ _ c q hq
  | .ob C ns ts, _, _, h, q, hq => by
    cases h with
    | ob n a a2 b b2 c d e f g =>
      rcases List.mem_cons.mp hq with rfl | hq
      · exact ⟨a, ne_some b⟩
      · rcases List.mem_cons.mp hq with rfl | hq
        · exact ⟨a2, ne_some b2⟩
        · exact OwAll.free ts _ _ c q hq
theorem OwAll.free : ∀ (ts : List Tr) (vs : List V) (A : List Addr), OwAll K B H ts vs A → ∀ q ∈ A, B q = none ∧ Mt H q
  | [], _, _, h, q, hq => by cases h; exact absurd hq List.not_mem_nil
  | t :: ts, _, _, h, q, hq => by
    cases h with
    | cons a b c =>
      rcases List.mem_append.mp hq with hq | hq
      · exact Ow.free t _ _ a q hq
      · exact OwAll.free ts _ _ b q hq
end
mutual
theorem Ow.det : ∀ (t : Tr) (v : V) (A A' : List Addr), Ow K B H t v A → Ow K B H t v A' → A = A'
  | .lf d, _, _, _, h, h' => by cases h; cases h'; rfl
  | .ls ts, _, _, _, h, h' => by
    cases h with
    | ls a b c d =>
      cases h' with
      | ls a' b' c' d' =>
        rw [b] at b'
        cases b'
        rw [OwAll.det ts _ _ _ c c']
  | .dk ks ts, _, _, _, h, h' => by
    cases h with
    | dk a b c d g =>
      cases h' with
      | dk a' b' c' d' g' =>
        rw [b] at b'
        cases b'
        rw [OwAll.det ts _ _ _ c c']
  | .dt ks ts, _, _, _, h, h' => by
    cases h with
    | dt a b c d g =>
      cases h' with
      | dt a' b' c' d' g' =>
        rw [b] at b'
        cases b'
        rw [OwAll.det ts _ _ _ c c']
  | .ob C ns ts, _, _, _, h, h' => by
    cases h with
    | ob n a a2 b b2 c d e f g =>
      cases h' with
      | ob n' a' a2' b' b2' c' d' e' f' g' =>
        rw [b] at b'
        cases b'
        rw [OwAll.det ts _ _ _ c c']
theorem OwAll.det : ∀ (ts : List Tr) (vs : List V) (A A' : List Addr), OwAll K B H ts vs A → OwAll K B H ts vs A' → A = A'
  | [], _, _, _, h, h' => by cases h; cases h'; rfl
  | t :: ts, _, _, _, h, h' => by
    cases h with
    | cons a b c =>
      cases h' with
      | cons a' b' c' => rw [Ow.det t _ _ _ a a', OwAll.det ts _ _ _ b b']
end
mutual
theorem Ow.rp {B1 : Hp} (hB : Ex B B1) : ∀ (t : Tr) (v : V) (A : List Addr) (d : D), Ow K B H t v A → (∀ q ∈ A, ∀ o, H q = some o → B1 q = some o) → t.d = some d → Rp K B1 v d
  | .lf d, _, _, _, h, _, e => by cases h with | lf r => rw [Tr.d] at e; cases e; exact r.up hB
  | .ls ts, _, _, _, h, k, e => by
    cases h with
    | ls a b c d =>
      rw [Tr.d] at e
      cases q : Tr.dAll ts with
      | none => rw [q] at e; cases e
      | some ds => rw [q] at e; cases e; exact .lst (SqL.of (k _ List.mem_cons_self _ b)) (OwAll.rp hB ts _ _ _ c (fun q hq => k q (List.mem_cons_of_mem _ hq)) q)
  | .dk ks ts, _, _, _, h, k, e => by
    cases h with
    | dk a b c d g =>
      subst g
      rw [Tr.d] at e
      cases q : Tr.dAll ts with
      | none => rw [q] at e; cases e
      | some ds => rw [q] at e; cases e; exact .dic (.inl (k _ List.mem_cons_self _ b)) (OwAll.rp hB ts _ _ _ c (fun q hq => k q (List.mem_cons_of_mem _ hq)) q)
  | .dt ks ts, _, _, _, h, k, e => by
    cases h with
    | dt a b c d g =>
      subst g
      rw [Tr.d] at e
      cases q : Tr.dAll ts with
      | none => rw [q] at e; cases e
      | some ds => rw [q] at e; cases e; exact .dit (.inl (k _ List.mem_cons_self _ b)) (OwAll.rp hB ts _ _ _ c (fun q hq => k q (List.mem_cons_of_mem _ hq)) q)
  | .ob C ns ts, _, _, _, _, _, e => by rw [Tr.d] at e; cases e
theorem OwAll.rp {B1 : Hp} (hB : Ex B B1) : ∀ (ts : List Tr) (vs : List V) (A : List Addr) (ds : List D), OwAll K B H ts vs A → (∀ q ∈ A, ∀ o, H q = some o → B1 q = some o) → Tr.dAll ts = some ds → RpAll K B1 vs ds
  | [], _, _, _, h, _, e => by cases h; rw [Tr.dAll] at e; cases e; exact .nil
  | t :: ts, _, _, _, h, k, e => by
    cases h with
    | cons a b c =>
      rw [Tr.dAll] at e
      cases q : Tr.d t with
      | none => rw [q] at e; cases e
      | some d =>
        rw [q] at e
        cases q2 : Tr.dAll ts with
        | none => rw [q2] at e; cases e
        | some ds => rw [q2] at e; cases e; exact .cons (Ow.rp hB t _ _ _ a (fun q hq => k q (List.mem_append_left _ hq)) q) (OwAll.rp hB ts _ _ _ b (fun q hq => k q (List.mem_append_right _ hq)) q2)
end
end
inductive Sl where
  | no | dat (d : D) | own (ds : List D) | owd (ks : List Key) (ds : List D) | owt (ks : List (List Key)) (ds : List D) | tre (t : Tr) | par (t : Tr) | ro (t : Tr) | ex (p : Addr) (u : HO)
abbrev En := List Sl
def Sl.mut : Sl → Bool
  | .own _ => true | .owd _ _ => true | .owt _ _ => true | .tre _ => true | .par _ => true | .ex _ _ => true | _ => false
def SlOk (K : PySem.W.Frag) (B H : Hp) : Sl → Option V → Prop
  | .no, _ => True
  | .dat d, o => ∃ v, o = some v ∧ Rp K B v d
  | .own ds, o => ∃ p vs, o = some (.ref p) ∧ B p = none ∧ H p = some (.lst vs) ∧ RpAll K B vs ds
  | .owd ks ds, o => ∃ p kvs, o = some (.ref p) ∧ B p = none ∧ H p = some (.dK kvs) ∧ kvs.map (·.1) = ks ∧ RpAll K B (kvs.map (·.2)) ds
  | .owt ks ds, o => ∃ p kvs, o = some (.ref p) ∧ B p = none ∧ H p = some (.dT kvs) ∧ kvs.map (·.1) = ks ∧ RpAll K B (kvs.map (·.2)) ds
  | .tre t, o => ∃ v A, o = some v ∧ Ow K B H t v A
  | .par t, o => ∃ v A, o = some v ∧ Ow K B H t v A
  | .ro _, _ => True
  | .ex p u, o => o = some (.ref p) ∧ B p = none ∧ H p = some u ∧ ∀ xs, u ≠ .tup xs
def Ft (K : PySem.W.Frag) (B H : Hp) (s : Sl) (o : Option V) (q : Addr) : Prop := match s with
  | .tre t => ∃ v A, o = some v ∧ Ow K B H t v A ∧ q ∈ A
  | .par t => ∃ v A, o = some v ∧ Ow K B H t v A ∧ q ∈ A
  | .own _ => o = some (.ref q)
  | .owd _ _ => o = some (.ref q)
  | .owt _ _ => o = some (.ref q)
  | .no => False
  | .dat _ => False
  | .ro _ => False
  | .ex _ _ => o = some (.ref q)
structure HB where
  h : Hp
  rt : Nat → V
def HB.of (H : Hp) : HB := ⟨H, fun _ => .non⟩
instance : Coe HB Hp := ⟨HB.h⟩
instance : CoeFun HB (fun _ => Addr → Option HO) := ⟨HB.h⟩
structure EnOk (K : PySem.W.Frag) (B0 : Hp) (H0 : HB) (B H : Hp) (σ : L2.St) (en : En) : Prop where
  ext : Ext B0 H0 B H
  len : σ.length = en.length
  slot : ∀ (i : Nat) (s : Sl) (o : Option V), en[i]? = some s → σ[i]? = some o → SlOk K B H s o
  apart : ∀ (i j : Nat) (si sj : Sl) (oi oj : Option V) (q : Addr), en[i]? = some si → en[j]? = some sj → σ[i]? = some oi → σ[j]? = some oj → Ft K B H si oi q → Ft K B H sj oj q → i = j
  frs : ∀ (i : Nat) (s : Sl) (o : Option V) (q : Addr), en[i]? = some s → σ[i]? = some o → Ft K B H s o q → H0 q = none
  root : ∀ (i : Nat) (t : Tr) (o : Option V), en[i]? = some (.par t) → σ[i]? = some o → o = some (H0.rt i)
  ro : ∀ (i : Nat) (t : Tr) (o : Option V), en[i]? = some (.ro t) → σ[i]? = some o → ∃ v A, o = some v ∧ Ow K B0 H0 t v A
section
variable {K : PySem.W.Frag} {B H B' H' : Hp} {s : Sl} {o : Option V} {q : Addr}
theorem Ft.mut (f : Ft K B H s o q) : s.mut = true := by
  cases s with
  | no => exact f.elim
  | dat d => exact f.elim
  | ro t => exact f.elim
  | _ => rfl
theorem SlOk.free (h : SlOk K B H s o) (f : Ft K B H s o q) : B q = none ∧ Mt H q := by
  cases s with
  | no => exact f.elim
  | dat d => exact f.elim
  | own ds =>
    obtain ⟨p, vs, a, b, c, d⟩ := h
    have f : o = some (.ref q) := f
    rw [a] at f; cases f
    exact ⟨b, ne_some c⟩
  | owd ks ds =>
    obtain ⟨p, vs, a, b, c, d, e⟩ := h
    have f : o = some (.ref q) := f
    rw [a] at f; cases f
    exact ⟨b, ne_some c⟩
  | owt ks ds =>
    obtain ⟨p, vs, a, b, c, d, e⟩ := h
    have f : o = some (.ref q) := f
    rw [a] at f; cases f
    exact ⟨b, ne_some c⟩
  | tre t =>
    obtain ⟨v, A, _, f, hq⟩ := f
    exact Ow.free t v A f q hq
  | par t =>
    obtain ⟨v, A, _, f, hq⟩ := f
    exact Ow.free t v A f q hq
  | ro t => exact f.elim
  | ex p u =>
    obtain ⟨a, b, c, d⟩ := h
    have f : o = some (.ref q) := f
    rw [a] at f; cases f
    exact ⟨b, ne_some c d⟩
theorem SlOk.mono (h : SlOk K B H s o) (hB : Ex B B') (k : ∀ q, Ft K B H s o q → H' q = H q ∧ B' q = none) : SlOk K B' H' s o ∧ ∀ q, Ft K B' H' s o q ↔ Ft K B H s o q := by
  cases s with
  | no => exact ⟨trivial, fun q => Iff.rfl⟩
  | dat d => obtain ⟨v, a, b⟩ := h; exact ⟨⟨v, a, b.up hB⟩, fun q => Iff.rfl⟩
  | own ds => obtain ⟨p, vs, a, b, c, d⟩ := h; exact ⟨⟨p, vs, a, (k p a).2, by rw [(k p a).1]; exact c, d.up hB⟩, fun q => Iff.rfl⟩
  | owd ks ds => obtain ⟨p, vs, a, b, c, d, r⟩ := h; exact ⟨⟨p, vs, a, (k p a).2, by rw [(k p a).1]; exact c, d, r.up hB⟩, fun q => Iff.rfl⟩
  | owt ks ds => obtain ⟨p, vs, a, b, c, d, r⟩ := h; exact ⟨⟨p, vs, a, (k p a).2, by rw [(k p a).1]; exact c, d, r.up hB⟩, fun q => Iff.rfl⟩
  | tre t =>
    obtain ⟨v, A, a, w⟩ := h
    have w' : Ow K B' H' t v A := Ow.mono hB t v A w fun q hq => k q ⟨v, A, a, w, hq⟩
    refine ⟨⟨v, A, a, w'⟩, fun q => ⟨fun f => ?_, fun f => ?_⟩⟩
    · obtain ⟨v2, A2, e, f, hq⟩ := f
      rw [a] at e; cases e
      rw [Ow.det t v A2 A f w'] at hq
      exact ⟨v, A, a, w, hq⟩
    · obtain ⟨v2, A2, e, f, hq⟩ := f
      rw [a] at e; cases e
      rw [Ow.det t v A2 A f w] at hq
      exact ⟨v, A, a, w', hq⟩
  | par t =>
    obtain ⟨v, A, a, w⟩ := h
    have w' : Ow K B' H' t v A := Ow.mono hB t v A w fun q hq => k q ⟨v, A, a, w, hq⟩
    refine ⟨⟨v, A, a, w'⟩, fun q => ⟨fun f => ?_, fun f => ?_⟩⟩
    · obtain ⟨v2, A2, e, f, hq⟩ := f
      rw [a] at e; cases e
      rw [Ow.det t v A2 A f w'] at hq
      exact ⟨v, A, a, w, hq⟩
    · obtain ⟨v2, A2, e, f, hq⟩ := f
      rw [a] at e; cases e
      rw [Ow.det t v A2 A f w] at hq
      exact ⟨v, A, a, w', hq⟩
  | ro t => exact ⟨trivial, fun q => Iff.rfl⟩
  | ex p u => obtain ⟨a, b, c, d⟩ := h; exact ⟨⟨a, (k p a).2, by rw [(k p a).1]; exact c, d⟩, fun q => Iff.rfl⟩
theorem SlOk.up' (h : SlOk K B H s o) (e : Ext B H B' H') : SlOk K B' H' s o ∧ ∀ q, Ft K B' H' s o q ↔ Ft K B H s o q := h.mono e.bb fun q f => by
  obtain ⟨a, b⟩ := h.free f
  refine ⟨?_, (e.st q b).trans a⟩
  cases c : H q with
  | none => exact absurd c b.1
  | some u => exact e.hh q u c
theorem SlOk.up (h : SlOk K B H s o) (e : Ext B H B' H') : SlOk K B' H' s o := (h.up' e).1
variable {B0 : Hp} {H0 : HB} {σ : L2.St} {en : En}
theorem EnOk.lt (h : EnOk K B0 H0 B H σ en) {i : Nat} {s : Sl} (e : en[i]? = some s) : ∃ o, σ[i]? = some o := by
  obtain ⟨hi, _⟩ := List.getElem?_eq_some_iff.mp e
  exact ⟨σ[i]'(by rw [h.len]; exact hi), List.getElem?_eq_getElem _⟩
theorem EnOk.up (h : EnOk K B0 H0 B H σ en) (e : Ext B H B' H') : EnOk K B0 H0 B' H' σ en :=
  ⟨h.ext.trans e, h.len, fun i s o a b => (h.slot i s o a b).up e, fun i j si sj oi oj q a b c d f g => h.apart i j si sj oi oj q a b c d (((h.slot i si oi a c).up' e).2 q |>.mp f) (((h.slot j sj oj b d).up' e).2 q |>.mp g),
    fun i s o q a b f => h.frs i s o q a b (((h.slot i s o a b).up' e).2 q |>.mp f), h.root, h.ro⟩
theorem EnOk.bh (h : EnOk K B0 H0 B H σ en) : Ex B H := h.ext.bh
theorem EnOk.dat (h : EnOk K B0 H0 B H σ en) {i : Nat} {d : D} (e : en[i]? = some (.dat d)) : ∃ v, σ[i]? = some (some v) ∧ Rp K B v d := by
  obtain ⟨o, ho⟩ := h.lt e
  obtain ⟨v, rfl, r⟩ := h.slot i _ o e ho
  exact ⟨v, ho, r⟩
theorem EnOk.own (h : EnOk K B0 H0 B H σ en) {i : Nat} {ds : List D} (e : en[i]? = some (.own ds)) : ∃ p vs, σ[i]? = some (some (.ref p)) ∧ B p = none ∧ H p = some (.lst vs) ∧ RpAll K B vs ds ∧ H0 p = none := by
  obtain ⟨o, ho⟩ := h.lt e
  obtain ⟨p, vs, rfl, a, b, c⟩ := h.slot i _ o e ho
  exact ⟨p, vs, ho, a, b, c, h.frs i _ _ p e ho rfl⟩
theorem EnOk.owd (h : EnOk K B0 H0 B H σ en) {i : Nat} {ks : List Key} {ds : List D} (e : en[i]? = some (.owd ks ds)) :
    ∃ p kvs, σ[i]? = some (some (.ref p)) ∧ B p = none ∧ H p = some (.dK kvs) ∧ kvs.map (·.1) = ks ∧ RpAll K B (kvs.map (·.2)) ds ∧ H0 p = none := by
  obtain ⟨o, ho⟩ := h.lt e
  obtain ⟨p, vs, rfl, a, b, c, d⟩ := h.slot i _ o e ho
  exact ⟨p, vs, ho, a, b, c, d, h.frs i _ _ p e ho rfl⟩
theorem EnOk.owt (h : EnOk K B0 H0 B H σ en) {i : Nat} {ks : List (List Key)} {ds : List D} (e : en[i]? = some (.owt ks ds)) :
    ∃ p kvs, σ[i]? = some (some (.ref p)) ∧ B p = none ∧ H p = some (.dT kvs) ∧ kvs.map (·.1) = ks ∧ RpAll K B (kvs.map (·.2)) ds ∧ H0 p = none := by
  obtain ⟨o, ho⟩ := h.lt e
  obtain ⟨p, vs, rfl, a, b, c, d⟩ := h.slot i _ o e ho
  exact ⟨p, vs, ho, a, b, c, d, h.frs i _ _ p e ho rfl⟩
theorem EnOk.tre (h : EnOk K B0 H0 B H σ en) {i : Nat} {t : Tr} (e : en[i]? = some (.tre t)) : ∃ v A, σ[i]? = some (some v) ∧ Ow K B H t v A ∧ ∀ q ∈ A, H0 q = none := by
  obtain ⟨o, ho⟩ := h.lt e
  obtain ⟨v, A, rfl, w⟩ := h.slot i _ o e ho
  exact ⟨v, A, ho, w, fun q hq => h.frs i _ _ q e ho ⟨v, A, rfl, w, hq⟩⟩

theorem get_set {α : Type} {l : List α} {i j : Nat} {x y : α} (h : (l.set i x)[j]? = some y) : (j = i ∧ y = x ∧ i < l.length) ∨ (j ≠ i ∧ l[j]? = some y) := by
  by_cases e : j = i
  · subst e
    by_cases hl : j < l.length
    · rw [List.getElem?_set_self hl] at h; exact .inl ⟨rfl, (Option.some.inj h).symm, hl⟩
    · rw [List.getElem?_eq_none (by simpa using hl)] at h; cases h
  · rw [List.getElem?_set_ne (Ne.symm e)] at h; exact .inr ⟨e, h⟩
theorem EnOk.put (h : EnOk K B0 H0 B H σ en) {o : Option V} {s : Sl} (i : Nat) (hs : SlOk K B H s o) (f0 : ∀ q, Ft K B H s o q → H0 q = none)
    (hn : ∀ (j : Nat) (sj : Sl) (oj : Option V), j ≠ i → en[j]? = some sj → σ[j]? = some oj → ∀ q, Ft K B H s o q → ¬ Ft K B H sj oj q) (np : ∀ t, s ≠ .par t := by intro _ z; cases z) (nr : ∀ t, s ≠ .ro t := by intro _ z; cases z) : EnOk K B0 H0 B H (σ.set i o) (en.set i s) := by
  have key : ∀ (j : Nat) (sj : Sl) (oj : Option V), (en.set i s)[j]? = some sj → (σ.set i o)[j]? = some oj → (j = i ∧ sj = s ∧ oj = o) ∨ (j ≠ i ∧ en[j]? = some sj ∧ σ[j]? = some oj) := fun j sj oj a b => by
    rcases get_set a with ⟨rfl, rfl, hl⟩ | ⟨ne, a'⟩
    · rw [List.getElem?_set_self (by rw [h.len]; exact hl)] at b
      cases b
      exact .inl ⟨rfl, rfl, rfl⟩
    · rw [List.getElem?_set_ne (Ne.symm ne)] at b
      exact .inr ⟨ne, a', b⟩
  refine ⟨h.ext, by rw [List.length_set, List.length_set, h.len], fun j sj oj a b => ?_, fun j k sj sk oj ok q a b c d f g => ?_, fun j sj oj q a b f => ?_, fun j t oj a b => ?_, fun j t oj a b => ?_⟩
  · rcases key j sj oj a b with ⟨rfl, rfl, rfl⟩ | ⟨_, a', b'⟩
    · exact hs
    · exact h.slot j sj oj a' b'
  · rcases key j sj oj a c with ⟨rfl, rfl, rfl⟩ | ⟨n1, a', c'⟩
    · rcases key k sk ok b d with ⟨rfl, rfl, rfl⟩ | ⟨n2, b', d'⟩
      · rfl
      · exact (hn k sk ok n2 b' d' q f g).elim
    · rcases key k sk ok b d with ⟨rfl, rfl, rfl⟩ | ⟨n2, b', d'⟩
      · exact (hn j sj oj n1 a' c' q g f).elim
      · exact h.apart j k sj sk oj ok q a' b' c' d' f g
  · rcases key j sj oj a b with ⟨rfl, rfl, rfl⟩ | ⟨_, a', b'⟩
    · exact f0 q f
    · exact h.frs j sj oj q a' b' f
  · rcases key j _ oj a b with ⟨rfl, z, rfl⟩ | ⟨_, a', b'⟩
    · exact (np t z.symm).elim
    · exact h.root j t oj a' b'
  · rcases key j _ oj a b with ⟨rfl, z, rfl⟩ | ⟨_, a', b'⟩
    · exact (nr t z.symm).elim
    · exact h.ro j t oj a' b'
theorem EnOk.set (h : EnOk K B0 H0 B H σ en) {v : V} {d : D} (i : Nat) (r : Rp K B v d) : EnOk K B0 H0 B H (σ.set i (some v)) (en.set i (.dat d)) :=
  h.put i ⟨v, rfl, r⟩ (fun _ f => f.elim) fun _ _ _ _ _ _ _ f _ => f.elim
theorem EnOk.nref (h : EnOk K B0 H0 B H σ en) {p : Addr} (hp : H p = none) (x : Ext B H B' H') : ∀ (j : Nat) (sj : Sl) (oj : Option V), en[j]? = some sj → σ[j]? = some oj → ¬ Ft K B' H' sj oj p := fun j sj oj a b f => by
  have sk := h.slot j sj oj a b
  exact (sk.free (((sk.up' x).2 p).mp f)).2.1 hp
theorem EnOk.setM (h : EnOk K B0 H0 B H σ en) {p : Addr} {s : Sl} (i : Nat) (hs : SlOk K B H s (some (.ref p))) (f0 : H0 p = none)
    (hn : ∀ (j : Nat) (sj : Sl) (oj : Option V), en[j]? = some sj → σ[j]? = some oj → ¬ Ft K B H sj oj p) (one : ∀ q, Ft K B H s (some (.ref p)) q → q = p := by first | exact (fun q f => by cases f; rfl) | assumption) (np : ∀ t, s ≠ .par t := by intro _ z; cases z) (nr : ∀ t, s ≠ .ro t := by intro _ z; cases z) : EnOk K B0 H0 B H (σ.set i (some (.ref p))) (en.set i s) :=
  h.put i hs (fun q f => by rw [one q f]; exact f0) (fun j sj oj _ a b q f g => hn j sj oj a b (by rw [← one q f]; exact g)) np nr
theorem EnOk.chgG (h : EnOk K B0 H0 B H σ en) {i : Nat} {s0 s : Sl} {o : Option V} (e : en[i]? = some s0) (ho : σ[i]? = some o) (hH : ∀ q, ¬ Ft K B H s0 o q → H q ≠ none → H' q = H q) (hs : SlOk K B H' s o)
    (hf : ∀ q, Ft K B H' s o q → Ft K B H s0 o q ∨ H0 q = none ∧ ∀ (j : Nat) (sj : Sl) (oj : Option V), en[j]? = some sj → σ[j]? = some oj → ¬ Ft K B H sj oj q) (np : ∀ t, s = .par t → ∃ t0, s0 = .par t0 := by intro _ z; cases z) (nr : ∀ t, s ≠ .ro t := by intro _ z; cases z) : EnOk K B0 H0 B H' σ (en.set i s) := by
  have sl0 := h.slot i s0 o e ho
  have keep : ∀ (j : Nat) (sj : Sl) (oj : Option V), j ≠ i → en[j]? = some sj → σ[j]? = some oj → SlOk K B H' sj oj ∧ ∀ q, Ft K B H' sj oj q ↔ Ft K B H sj oj q := fun j sj oj ne a b => by
    have sj' := h.slot j sj oj a b
    refine sj'.mono (Ex.refl _) fun q f => ?_
    have fr := sj'.free f
    exact ⟨hH q (fun g => ne (h.apart j i sj s0 oj o q a e b ho f g)) fr.2.1, fr.1⟩
  have hh : ∀ a u, H a = some u → (∀ f : Ft K B H s0 o a, False) → H' a = some u := fun a u q f => by
    rw [hH a f (by rw [q]; exact fun z => nomatch z)]; exact q
  have new : ∀ (j : Nat) (sj : Sl) (oj : Option V), (en.set i s)[j]? = some sj → σ[j]? = some oj → (j = i ∧ sj = s ∧ oj = o) ∨ (j ≠ i ∧ en[j]? = some sj) := fun j sj oj a b => by
    rcases get_set a with ⟨rfl, rfl, _⟩ | ⟨ne, a'⟩
    · rw [ho] at b; cases b; exact .inl ⟨rfl, rfl, rfl⟩
    · exact .inr ⟨ne, a'⟩
  refine ⟨⟨h.ext.bb, fun a u q => hh a u (h.bh a u q) fun f => ?_, fun a u q => hh a u (h.ext.hh a u q) fun f => ?_, h.ext.st⟩, by rw [List.length_set, h.len], fun j sj oj a b => ?_, fun j k sj sk oj ok q a b c d f g => ?_, fun j sj oj q a b f => ?_, fun j t oj a b => ?_, fun j t oj a b => ?_⟩
  · rw [(sl0.free f).1] at q; cases q
  · rw [h.frs i s0 o a e ho f] at q; cases q
  · rcases new j sj oj a b with ⟨rfl, rfl, rfl⟩ | ⟨ne, a'⟩
    · exact hs
    · exact (keep j sj oj ne a' b).1
  · have cross : ∀ (k : Nat) (sk : Sl) (ok : Option V), k ≠ i → en[k]? = some sk → σ[k]? = some ok → Ft K B H' s o q → Ft K B H' sk ok q → False := fun k sk ok ne b d f g => by
      have g' := ((keep k sk ok ne b d).2 q).mp g
      rcases hf q f with f' | f'
      · exact ne (h.apart k i sk s0 ok o q b e d ho g' f')
      · exact f'.2 k sk ok b d g'
    rcases new j sj oj a c with ⟨rfl, rfl, rfl⟩ | ⟨n1, a'⟩
    · rcases new k sk ok b d with ⟨rfl, rfl, rfl⟩ | ⟨n2, b'⟩
      · rfl
      · exact (cross k sk ok n2 b' d f g).elim
    · rcases new k sk ok b d with ⟨rfl, rfl, rfl⟩ | ⟨n2, b'⟩
      · exact (cross j sj oj n1 a' c g f).elim
      · exact h.apart j k sj sk oj ok q a' b' c d (((keep j sj oj n1 a' c).2 q).mp f) (((keep k sk ok n2 b' d).2 q).mp g)
  · rcases new j sj oj a b with ⟨rfl, rfl, rfl⟩ | ⟨ne, a'⟩
    · rcases hf q f with f' | f'
      · exact h.frs j s0 oj q e ho f'
      · exact f'.1
    · exact h.frs j sj oj q a' b (((keep j sj oj ne a' b).2 q).mp f)
  · rcases new j _ oj a b with ⟨rfl, z, rfl⟩ | ⟨ne, a'⟩
    · obtain ⟨t0, z0⟩ := np t z.symm
      subst z0
      exact h.root j t0 oj e ho
    · exact h.root j t oj a' b
  · rcases new j _ oj a b with ⟨rfl, z, rfl⟩ | ⟨ne, a'⟩
    · exact (nr t z.symm).elim
    · exact h.ro j t oj a' b
theorem EnOk.chgT (h : EnOk K B0 H0 B H σ en) {i : Nat} {s0 s : Sl} {o : Option V} (e : en[i]? = some s0) (ho : σ[i]? = some o) (hH : ∀ q, ¬ Ft K B H s0 o q → H q ≠ none → H' q = H q) (hs : SlOk K B H' s o)
    (hf : ∀ q, Ft K B H' s o q → Ft K B H s0 o q ∨ H q = none) (np : ∀ t, s = .par t → ∃ t0, s0 = .par t0 := by intro _ z; cases z) (nr : ∀ t, s ≠ .ro t := by intro _ z; cases z) : EnOk K B0 H0 B H' σ (en.set i s) :=
  h.chgG e ho hH hs (fun q f => (hf q f).imp id fun z => ⟨fresh_back h.ext.hh z, fun j sj oj a b g => ((h.slot j sj oj a b).free g).2.1 z⟩) np nr
theorem EnOk.chg (h : EnOk K B0 H0 B H σ en) {p : Addr} {i : Nat} {s0 s : Sl} {u : HO} (e : en[i]? = some s0) (m0 : s0.mut = true) (m : s.mut = true) (hp : σ[i]? = some (some (.ref p))) (hb : B p = none) (hs : SlOk K B (upd H p u) s (some (.ref p)))
    (f0 : Ft K B H s0 (some (.ref p)) p := by exact rfl) (one : ∀ q, Ft K B (upd H p u) s (some (.ref p)) q → q = p := by first | exact (fun q f => by cases f; rfl) | assumption) (np : ∀ t, s = .par t → ∃ t0, s0 = .par t0 := by intro _ z; cases z) (nr : ∀ t, s ≠ .ro t := by intro _ z; cases z) :
    EnOk K B0 H0 B (upd H p u) σ (en.set i s) :=
  h.chgT e hp (fun q f _ => upd_ne (fun z => f (by rw [z]; exact f0))) hs (fun q f => .inl (by rw [one q f]; exact f0)) np nr
end
end DD

namespace DD
open PySem PySem.Spec PyProof.Rows L2 Evl

def Kp (K : PySem.W.Frag) (B H : Hp) (d : D) (Q : VK) : Prop := ∀ v B' H', Ext B H B' H' → Rp K B' v d → Q v H'
def CE (K : PySem.W.Frag) (te : TE) (f : En → Option D) : Prop := ∀ B0 H0 B H σ en d, EnOk K B0 H0 B H σ en → f en = some d → ∀ Q : VK, Kp K B H d Q → te σ H Q
def CT (K : PySem.W.Frag) (tt : TT) (f : En → Option Bool) : Prop := ∀ B0 H0 B H σ en b, EnOk K B0 H0 B H σ en → f en = some b → ∀ Q : Bool → Hp → Prop, (∀ B' H', Ext B H B' H' → Q b H') → tt σ H Q
def CA (K : PySem.W.Frag) (ta : TA) (f : En → Option (List D)) : Prop := ∀ B0 H0 B H σ en ds, EnOk K B0 H0 B H σ en → f en = some ds → ∀ Q : List V → Hp → Prop, (∀ vs B' H', Ext B H B' H' → RpAll K B' vs ds → Q vs H') → ta σ H Q
def CO (K : PySem.W.Frag) (to : TO) (f : En → Option (Option Int)) : Prop := ∀ B0 H0 B H σ en o, EnOk K B0 H0 B H σ en → f en = some o → ∀ Q : Option Int → Hp → Prop, (∀ B' H', Ext B H B' H' → Q o H') → to σ H Q
def CL (K : PySem.W.Frag) (te : TE) (f : En → Option (List D)) : Prop := ∀ B0 H0 B H σ en ds, EnOk K B0 H0 B H σ en → f en = some ds → ∀ Q : VK, (∀ p vs B' H', Ext B H B' H' → H p = none → B' p = none → H' p = some (.lst vs) → RpAll K B' vs ds → Q (.ref p) H') → te σ H Q
structure DE (X : Cx) (e : Expr) (te : TE) (f : En → Option D) : Prop where
  p : PE X e te
  c : CE X.K te f
structure DT (X : Cx) (e : Expr) (te : TT) (f : En → Option Bool) : Prop where
  p : PT X e te
  c : CT X.K te f
structure DW (X : Cx) (e : Expr) (te : TT) (f : En → Option Bool) : Prop where
  p : PW X e te
  c : CT X.K te f
structure DA (X : Cx) (es : List Expr) (te : TA) (f : En → Option (List D)) : Prop where
  p : PA X es te
  c : CA X.K te f
structure DO (X : Cx) (e : Option Expr) (te : TO) (f : En → Option (Option Int)) : Prop where
  p : PO X e te
  c : CO X.K te f
structure DL (X : Cx) (e : Expr) (te : TE) (f : En → Option (List D)) : Prop where
  p : PE X e te
  c : CL X.K te f

theorem obind {α β : Type} {o : Option α} {f : α → Option β} {b : β} (h : o.bind f = some b) : ∃ a, o = some a ∧ f a = some b := by
  cases o with
  | none => cases h
  | some a => exact ⟨a, rfl, h⟩
theorem omap {α β : Type} {o : Option α} {f : α → β} {b : β} (h : o.map f = some b) : ∃ a, o = some a ∧ f a = b := by
  cases o with
  | none => cases h
  | some a => exact ⟨a, rfl, Option.some.inj h⟩
theorem oite {α : Type} {c : Prop} [Decidable c] {a b : α} (h : (if c then some a else none) = some b) : c ∧ a = b := by
  by_cases hc : c
  · rw [if_pos hc] at h; exact ⟨hc, Option.some.inj h⟩
  · rw [if_neg hc] at h; cases h

abbrev lim : Nat := 1000000
theorem lim_le {n : Nat} (h : n ≤ lim) : n ≤ sizeLine := Nat.le_trans h (by decide)
theorem lim_lt {n : Nat} (h : n ≤ lim) : n < sizeLine := Nat.lt_of_le_of_lt h (by decide)

section
variable {K : PySem.W.Frag} {X : Cx} {pos : Pos} {a b c e : Expr} {ta tb tc te : TE} {fa fb fc f : En → Option D} {B H : Hp}
theorem kp_flat {v : V} {d : D} {Q : VK} (k : Kp K B H d Q) (e : Ex B H) (h : Rp K B v d) : Q v H := k v B H (Ext.refl e) h

@[simp] def dVar (i : Nat) : En → Option D := fun en => match en[i]? with
  | some (.dat d) => some d
  | _ => none
@[simp] def dC (d : D) : En → Option D := fun _ => some d
theorem dVar_some {i : Nat} {en : En} {d : D} (h : dVar i en = some d) : en[i]? = some (.dat d) := by
  unfold dVar at h
  split at h
  · rename_i d' e; cases h; exact e
  · cases h
theorem ce_var (i : Nat) : CE K (tVar i) (dVar i) := fun B0 H0 B H σ en d h e Q k => by
  obtain ⟨v, h1, h2⟩ := h.dat (dVar_some e)
  exact ⟨v, h1, k v B H (Ext.refl h.bh) h2⟩
theorem de_var (i : Nat) {x : Str} (h : PE X (.Name x pos) (tVar i)) : DE X (.Name x pos) (tVar i) (dVar i) := ⟨h, ce_var i⟩
theorem ce_c {v : V} {d : D} (h : ∀ B, Rp K B v d) : CE K (tC v) (dC d) := fun B0 H0 B H σ en d' hE e Q k => by
  cases e
  exact k v B H (Ext.refl hE.bh) (h B)
theorem de_int {i j} : DE X (.Constant (.int i) j pos) (tC (.int i)) (dC (.int i)) := ⟨pe_int, ce_c fun _ => .int _⟩
theorem de_bl {i j} : DE X (.Constant (.bool i) j pos) (tC (.bl i)) (dC (.bl i)) := ⟨pe_bl, ce_c fun _ => .bl _⟩
theorem de_non {j} : DE X (.Constant .none j pos) (tC .non) (dC .non) := ⟨pe_non, ce_c fun _ => .non⟩
theorem de_str {x j} : DE X (.Constant (.str x) j pos) (tC (.str x)) (dC (.str x)) := ⟨pe_str, ce_c fun _ => .str _⟩
theorem de_glob {x : Str} {v : V} {d : D} {u : Value} (hg : Gl X x) (hm : X.mg x = some u) (r : RelV v u) (h : ∀ B, Rp X.K B v d) (hd : (x == ("__debug__" : Str)) = false := by decide) : DE X (.Name x pos) (tC v) (dC d) := ⟨pe_glob hg hm r hd, ce_c h⟩

def OpD (K : PySem.W.Frag) (r : R2) (g : D → D → Option D) : Prop := ∀ B H x y dx dy d, Ex B H → Rp K B x dx → Rp K B y dy → g dx dy = some d → ∀ Q : VK, Kp K B H d Q → r x y H Q
@[simp] def d2 (g : D → D → Option D) (fa fb : En → Option D) : En → Option D := fun en => (fa en).bind fun x => (fb en).bind fun y => g x y
theorem ce_op {r : R2} {g : D → D → Option D} (hr : OpD K r g) (ha : CE K ta fa) (hb : CE K tb fb) : CE K (tOp r ta tb) (d2 g fa fb) := fun B0 H0 B H σ en d h e Q k => by
  obtain ⟨x, e1, e⟩ := obind e
  obtain ⟨y, e2, e⟩ := obind e
  refine ha B0 H0 B H σ en x h e1 _ fun v B1 H1 x1 r1 => ?_
  refine hb B0 H0 B1 H1 σ en y (h.up x1) e2 _ fun u B2 H2 x2 r2 => ?_
  exact hr B2 H2 v u x y d x2.bh (r1.up x2.bb) r2 e Q fun w B3 H3 x3 r3 => k w B3 H3 ((x1.trans x2).trans x3) r3
theorem de_bin {op : Operator} {r : R2} {g : D → D → Option D} (ho : OpR X (binaryOp op) r) (hr : OpD X.K r g) (ha : DE X a ta fa) (hb : DE X b tb fb) : DE X (.BinOp a op b pos) (tOp r ta tb) (d2 g fa fb) := ⟨pe_op ho ha.p hb.p, ce_op hr ha.c hb.c⟩
theorem de_cmp {op : CmpOp} {r : R2} {g : D → D → Option D} (ho : OpR X (compareOp op) r) (hr : OpD X.K r g) (ha : DE X a ta fa) (hb : DE X b tb fb) (hm : behindInMarks op b = false) : DE X (.Compare a [op] [b] pos) (tOp r ta tb) (d2 g fa fb) := ⟨pe_cmpR ho ha.p hb.p hm, ce_op hr ha.c hb.c⟩
theorem de_ix {r : R2} {g : D → D → Option D} (ho : IxR X r) (hr : OpD X.K r g) (ha : DE X a ta fa) (hb : DE X b tb fb) (hs : PlainIx b) : DE X (.Subscript a b pos) (tOp r ta tb) (d2 g fa fb) := ⟨pe_ix ho ha.p hb.p hs, ce_op hr ha.c hb.c⟩
theorem OpD.or {r r' : R2} {g g' : D → D → Option D} (h : OpD K r g) (h' : OpD K r' g') : OpD K (fun x y H Q => r x y H Q ∨ r' x y H Q) (fun x y => (g x y).or (g' x y)) := fun B H x y dx dy d hE h1 h2 e Q k => by
  have e : (g dx dy).or (g' dx dy) = some d := e
  cases q : g dx dy with
  | some z => rw [q] at e; cases e; exact .inl (h B H x y dx dy _ hE h1 h2 q Q k)
  | none => rw [q] at e; exact .inr (h' B H x y dx dy d hE h1 h2 e Q k)
@[simp] def gI (C : Int → Int → Bool) (g : Int → Int → D) : D → D → Option D
  | .int i, .int j => if C i j = true then some (g i j) else none
  | _, _ => none
theorem gI_some {C : Int → Int → Bool} {g : Int → Int → D} {x y d : D} (h : gI C g x y = some d) : ∃ i j, x = .int i ∧ y = .int j ∧ C i j = true ∧ d = g i j := by
  unfold gI at h
  split at h
  · rename_i i j
    obtain ⟨h1, h2⟩ := oite h
    exact ⟨i, j, rfl, rfl, h1, h2.symm⟩
  · cases h
theorem opd_I {P : Int → Int → Prop} {C : Int → Int → Bool} {g : Int → Int → V} {g' : Int → Int → D} (hp : ∀ i j, C i j = true → P i j) (hg : ∀ i j B, Rp K B (g i j) (g' i j)) : OpD K (rI P g) (gI C g') := fun B H x y dx dy d hE h1 h2 e Q k => by
  obtain ⟨i, j, rfl, rfl, hc, rfl⟩ := gI_some e
  cases h1; cases h2
  exact ⟨i, j, rfl, rfl, hp i j hc, kp_flat k hE (hg i j B)⟩
theorem opd_I0 {g : Int → Int → V} {g' : Int → Int → D} (hg : ∀ i j B, Rp K B (g i j) (g' i j)) : OpD K (rI0 g) (gI (fun _ _ => true) g') := fun B H x y dx dy d hE h1 h2 e Q k => by
  obtain ⟨i, j, rfl, rfl, hc, rfl⟩ := gI_some e
  cases h1; cases h2
  exact ⟨i, j, rfl, rfl, kp_flat k hE (hg i j B)⟩
@[simp] def gAddI := gI (fun _ _ => true) fun i j => .int (i + j)
@[simp] def gSub := gI (fun _ _ => true) fun i j => .int (i - j)
def smallI (i : Int) : Bool := Nat.ble i.natAbs 1000000000000000
theorem smallI_of {i : Int} (h : smallI i = true) : -(2 ^ 64) < i ∧ i < 2 ^ 64 := by
  have h := Nat.le_of_ble_eq_true h
  omega
def gMulI := gI (fun i j => smallI j || smallI i) fun i j => .int (i * j)
theorem gMul_l {i j : Int} (h : smallI i = true) : gMulI (.int i) (.int j) = some (.int (i * j)) := by
  show (if (smallI j || smallI i) = true then _ else _) = _
  rw [h, Bool.or_true] <;> rfl
theorem gMul_r {i j : Int} (h : smallI j = true) : gMulI (.int i) (.int j) = some (.int (i * j)) := by
  show (if (smallI j || smallI i) = true then _ else _) = _
  rw [h, Bool.true_or] <;> rfl
@[simp] theorem gMul_2 (j : Int) : gMulI (.int 2) (.int j) = some (.int (2 * j)) := gMul_l (by decide)
@[simp] theorem gMul_3 (j : Int) : gMulI (.int 3) (.int j) = some (.int (3 * j)) := gMul_l (by decide)
@[simp] theorem gMul_4 (j : Int) : gMulI (.int 4) (.int j) = some (.int (4 * j)) := gMul_l (by decide)
@[simp] theorem gMul_5 (j : Int) : gMulI (.int 5) (.int j) = some (.int (5 * j)) := gMul_l (by decide)
@[simp] theorem gMul_6 (j : Int) : gMulI (.int 6) (.int j) = some (.int (6 * j)) := gMul_l (by decide)
@[simp] theorem gMul_7 (j : Int) : gMulI (.int 7) (.int j) = some (.int (7 * j)) := gMul_l (by decide)
@[simp] theorem gMul_31 (j : Int) : gMulI (.int 31) (.int j) = some (.int (31 * j)) := gMul_l (by decide)
@[simp] theorem gMul_r48271 (j : Int) : gMulI (.int j) (.int 48271) = some (.int (j * 48271)) := gMul_r (by decide)
@[simp] theorem gMul_r69621 (j : Int) : gMulI (.int j) (.int 69621) = some (.int (j * 69621)) := gMul_r (by decide)
@[simp] def gMod := gI (fun _ j => decide (0 < j)) fun i j => .int (i % j)
@[simp] def gFdiv := gI (fun _ j => decide (0 < j) && Nat.ble j.natAbs 1000000000) fun i j => .int (i / j)
@[simp] def gPow := gI (fun i j => decide (0 ≤ j) && Nat.ble j.natAbs 1000 && Nat.ble i.natAbs 1000) fun i j => .int (i ^ j.toNat)
@[simp] def gLt := gI (fun _ _ => true) fun i j => .bl (decide (i < j))
@[simp] def gLe := gI (fun _ _ => true) fun i j => .bl (decide (i ≤ j))
@[simp] def gGt := gI (fun _ _ => true) fun i j => .bl (decide (j < i))
@[simp] def gGe := gI (fun _ _ => true) fun i j => .bl (decide (j ≤ i))
theorem od_addI : OpD K (rI0 fun i j => .int (i + j)) gAddI := opd_I0 fun _ _ _ => .int _
theorem od_sub : OpD K (rI0 fun i j => .int (i - j)) gSub := opd_I0 fun _ _ _ => .int _
theorem od_mulI : OpD K (rI CMul fun i j => .int (i * j)) gMulI := opd_I (fun i j h => by
  rw [Bool.or_eq_true] at h
  rcases h with h | h
  · exact .inr (smallI_of h)
  · exact .inl (smallI_of h)) fun _ _ _ => .int _
theorem od_mod : OpD K (rI (fun _ j => 0 < j) fun i j => .int (i % j)) gMod := opd_I (fun i j h => of_decide_eq_true h) fun _ _ _ => .int _
theorem od_fdiv : OpD K (rI CDiv fun i j => .int (i / j)) gFdiv := opd_I (fun i j h => by
  rw [Bool.and_eq_true, decide_eq_true_eq] at h
  have h2 := Nat.le_of_ble_eq_true h.2
  exact ⟨h.1, by have := h.1; omega⟩) fun _ _ _ => .int _
theorem od_pow : OpD K (rI CPow fun i j => .int (i ^ j.toNat)) gPow := opd_I (fun i j h => by
  rw [Bool.and_eq_true, Bool.and_eq_true, decide_eq_true_eq] at h
  have h2 := Nat.le_of_ble_eq_true h.1.2
  have h3 := Nat.le_of_ble_eq_true h.2
  exact ⟨h.1.1, by omega, by omega⟩) fun _ _ _ => .int _
theorem od_lt : OpD K (rI0 fun i j => .bl (decide (i < j))) gLt := opd_I0 fun _ _ _ => .bl _
theorem od_le : OpD K (rI0 fun i j => .bl (decide (i ≤ j))) gLe := opd_I0 fun _ _ _ => .bl _
theorem od_gt : OpD K (rI0 fun i j => .bl (decide (j < i))) gGt := opd_I0 fun _ _ _ => .bl _
theorem od_ge : OpD K (rI0 fun i j => .bl (decide (j ≤ i))) gGe := opd_I0 fun _ _ _ => .bl _
@[simp] def gAddS : D → D → Option D
  | .str i, .str j => if i.length + j.length ≤ lim then some (.str (i ++ j)) else none
  | _, _ => none
def rAddSt : R2 := fun x y H Q => ∃ i j, x = .str i ∧ y = .str j ∧ i.length + j.length ≤ sizeLine ∧ Q (.str (i ++ j)) H
theorem op_addS1 : OpR X (binaryOp .Add) rAddSt := op_add_str
theorem od_addS : OpD K rAddSt gAddS := fun B H x y dx dy d hE h1 h2 e Q k => by
  unfold gAddS at e
  split at e
  · obtain ⟨h, rfl⟩ := oite e
    cases h1; cases h2
    exact ⟨_, _, rfl, rfl, lim_le h, kp_flat k hE (.str _)⟩
  · cases e
@[simp] def gAddT : D → D → Option D
  | .tup i, .tup j => if i ≠ [] ∧ i.length + j.length ≤ lim then some (.tup (i ++ j)) else none
  | _, _ => none
theorem od_addT : OpD K (rCatT K) gAddT := fun B H x y dx dy d hE h1 h2 e Q k => by
  unfold gAddT at e
  split at e
  · rename_i i j
    obtain ⟨⟨h, h'⟩, rfl⟩ := oite e
    cases h1 with
    | tup s1_ r1 =>
      cases h2 with
      | tup s2_ r2 =>
        have l1 := r1.len
        have l2 := r2.len
        refine ⟨_, _, _, _, rfl, rfl, SqT.of (hE _ _ s1_), SqT.of (hE _ _ s2_), ?_, by rw [l1, l2]; exact lim_le h', fun z => ?_, fun _ p hp => ?_⟩
        · intro z; subst z; cases r1; exact h rfl
        · subst z
          cases r2
          rw [List.append_nil] at k
          exact kp_flat k hE (.tup s1_ r1)
        · exact k _ _ _ (Ext.new hE hp) (.tup upd_same ((r1.app r2).up (Ex.new (fresh_back hE hp))))
  · cases e
def rAddAll (K : PySem.W.Frag) : R2 := fun x y H Q => rI0 (fun i j => .int (i + j)) x y H Q ∨ (rAddSt x y H Q ∨ rCatT K x y H Q)
theorem op_addAll : OpR X (binaryOp .Add) (rAddAll X.K) := op_add.or (op_addS1.or op_catT)
@[simp] def gAdd (x y : D) : Option D := (gAddI x y).or ((gAddS x y).or (gAddT x y))
theorem od_addAll : OpD K (rAddAll K) gAdd := od_addI.or (od_addS.or od_addT)
abbrev rSb : R2 := rI0 fun i j => .int (i - j)
abbrev rMl : R2 := rI CMul fun i j => .int (i * j)
abbrev rMd : R2 := rI (fun _ j => 0 < j) fun i j => .int (i % j)
abbrev rFd : R2 := rI CDiv fun i j => .int (i / j)
abbrev rPw : R2 := rI CPow fun i j => .int (i ^ j.toNat)
abbrev rL1 : R2 := rI0 fun i j => .bl (decide (i < j))
abbrev rG1 : R2 := rI0 fun i j => .bl (decide (j < i))
abbrev rG2 : R2 := rI0 fun i j => .bl (decide (j ≤ i))
theorem de_add (ha : DE X a ta fa) (hb : DE X b tb fb) : DE X (.BinOp a .Add b pos) (tOp (rAddAll X.K) ta tb) (d2 gAdd fa fb) := de_bin op_addAll od_addAll ha hb
theorem de_sub (ha : DE X a ta fa) (hb : DE X b tb fb) : DE X (.BinOp a .Sub b pos) (tOp rSb ta tb) (d2 gSub fa fb) := de_bin op_sub od_sub ha hb
theorem de_mul (ha : DE X a ta fa) (hb : DE X b tb fb) : DE X (.BinOp a .Mult b pos) (tOp rMl ta tb) (d2 gMulI fa fb) := de_bin op_mul od_mulI ha hb
theorem de_mod (ha : DE X a ta fa) (hb : DE X b tb fb) : DE X (.BinOp a .Mod b pos) (tOp rMd ta tb) (d2 gMod fa fb) := de_bin op_mod od_mod ha hb
theorem de_fdiv (ha : DE X a ta fa) (hb : DE X b tb fb) : DE X (.BinOp a .FloorDiv b pos) (tOp rFd ta tb) (d2 gFdiv fa fb) := de_bin op_fdiv od_fdiv ha hb
theorem de_pow (ha : DE X a ta fa) (hb : DE X b tb fb) : DE X (.BinOp a .Pow b pos) (tOp rPw ta tb) (d2 gPow fa fb) := de_bin op_pow od_pow ha hb
theorem de_lt (ha : DE X a ta fa) (hb : DE X b tb fb) : DE X (.Compare a [.Lt] [b] pos) (tOp rL1 ta tb) (d2 gLt fa fb) := de_cmp op_lt od_lt ha hb (nomark _)
theorem de_ge (ha : DE X a ta fa) (hb : DE X b tb fb) : DE X (.Compare a [.GtE] [b] pos) (tOp rG2 ta tb) (d2 gGe fa fb) := de_cmp op_ge od_ge ha hb (nomark _)
@[simp] def gNeg : D → Option D
  | .int i => some (.int (-i))
  | _ => none
@[simp] def d1 (g : D → Option D) (fa : En → Option D) : En → Option D := fun en => (fa en).bind g
theorem de_neg (ha : DE X a ta fa) : DE X (.UnaryOp .USub a pos) (tUn (rU fun i => .int (-i)) ta) (d1 gNeg fa) := ⟨pe_un un_neg ha.p, fun B0 H0 B H σ en d h e Q k => by
  obtain ⟨x, e1, e⟩ := obind e
  refine ha.c B0 H0 B H σ en x h e1 _ fun v B1 H1 x1 r1 => ?_
  unfold gNeg at e
  split at e
  · cases e
    cases r1
    exact ⟨_, rfl, k _ B1 H1 x1 (.int _)⟩
  · cases e⟩

mutual
def py : D → PyData
  | .non => .none
  | .bl b => .bool b
  | .int i => .int i
  | .str x => .str x
  | .lst ds => .list (pyAll ds)
  | .tup ds => .tuple (pyAll ds)
  | .dic _ _ => .none
  | .dit _ _ => .none
  | .fn _ => .none
  | .ctp _ => .none
def pyAll : List D → List PyData
  | [] => []
  | d :: ds => py d :: pyAll ds
end
mutual
def deep : Nat → D → Bool
  | _, .non => true
  | _, .bl _ => true
  | _, .int _ => true
  | _, .str x => PyData.strOk x
  | 0, .lst _ => false
  | 0, .tup _ => false
  | n + 1, .lst ds => deepAll n ds
  | n + 1, .tup ds => deepAll n ds
  | _, .dic _ _ => false
  | _, .dit _ _ => false
  | _, .fn _ => false
  | _, .ctp _ => false
def deepAll : Nat → List D → Bool
  | _, [] => true
  | n, d :: ds => deep n d && deepAll n ds
end
mutual
theorem Rp.dp : ∀ (d : D) (n : Nat) (v : V), deep n d = true → Rp K H v d → Dp K H v (py d)
  | .non, _, _, _, h => by cases h; exact .non
  | .bl _, _, _, _, h => by cases h; exact .bl _
  | .int _, _, _, _, h => by cases h; exact .int _
  | .str _, _, _, _, h => by cases h; exact .str _
  | .lst ds, 0, _, q, _ => by simp [deep] at q
  | .tup ds, 0, _, q, _ => by simp [deep] at q
  | .lst ds, n + 1, _, q, h => by cases h with | lst a b => exact .lst a (RpAll.dpA ds n _ (by simpa [deep] using q) b)
  | .tup ds, n + 1, _, q, h => by cases h with | tup a b => exact .tup (SqT.of a) (RpAll.dpA ds n _ (by simpa [deep] using q) b)
  | .dic _ _, _, _, q, _ => by simp [deep] at q
  | .dit _ _, _, _, q, _ => by simp [deep] at q
  | .fn _, _, _, q, _ => by simp [deep] at q
  | .ctp _, _, _, q, _ => by simp [deep] at q
theorem RpAll.dpA : ∀ (ds : List D) (n : Nat) (vs : List V), deepAll n ds = true → RpAll K H vs ds → DpAll K H vs (pyAll ds)
  | [], _, _, _, h => by cases h; exact .nil
  | d :: ds, n, _, q, h => by
    rw [deepAll, Bool.and_eq_true] at q
    cases h with | cons a b => exact .cons (Rp.dp d n _ q.1 a) (RpAll.dpA ds n _ q.2 b)
end
mutual
theorem deep_lay : ∀ (d : D) (n : Nat), deep n d = true → (py d).canLay0 = true ∧ (py d).depth ≤ n
  | .non, _, _ => by simp [py, PyData.canLay0, PyData.depth]
  | .bl _, _, _ => by simp [py, PyData.canLay0, PyData.depth]
  | .int _, _, _ => by simp [py, PyData.canLay0, PyData.depth]
  | .str x, _, q => by
    simp only [deep] at q
    simp [py, PyData.canLay0, PyData.depth, q]
  | .lst ds, 0, q => by simp [deep] at q
  | .tup ds, 0, q => by simp [deep] at q
  | .lst ds, n + 1, q => by
    obtain ⟨h1, h2⟩ := deepAll_lay ds n (by simpa [deep] using q)
    simp only [py, PyData.canLay0, PyData.depth]
    exact ⟨h1, by omega⟩
  | .tup ds, n + 1, q => by
    obtain ⟨h1, h2⟩ := deepAll_lay ds n (by simpa [deep] using q)
    simp only [py, PyData.canLay0, PyData.depth]
    exact ⟨h1, by omega⟩
  | .dic _ _, _, q => by simp [deep] at q
  | .dit _ _, _, q => by simp [deep] at q
  | .fn _, _, q => by simp [deep] at q
  | .ctp _, _, q => by simp [deep] at q
theorem deepAll_lay : ∀ (ds : List D) (n : Nat), deepAll n ds = true → PyData.canLayAll0 (pyAll ds) = true ∧ PyData.depthAll (pyAll ds) ≤ n
  | [], _, _ => by simp [pyAll, PyData.canLayAll0, PyData.depthAll]
  | d :: ds, n, q => by
    rw [deepAll, Bool.and_eq_true] at q
    obtain ⟨h1, h2⟩ := deep_lay d n q.1
    obtain ⟨h3, h4⟩ := deepAll_lay ds n q.2
    simp only [pyAll, PyData.canLayAll0, PyData.depthAll]
    exact ⟨by rw [h1, h3] <;> rfl, by omega⟩
end
theorem deep_shaped {d : D} (h : deep 60 d = true) : SeqAt.shaped (py d) = true := by
  obtain ⟨h1, h2⟩ := deep_lay d 60 h
  show ((py d).canLay0 && decide ((py d).depth ≤ 64)) = true
  rw [h1, decide_eq_true (by omega)] <;> rfl
@[simp] def gEq (x y : D) : Option D := if deep 60 x = true ∧ deep 60 y = true then some (.bl (PyData.eqv (py x) (py y))) else none
@[simp] def gNe (x y : D) : Option D := if deep 60 x = true ∧ deep 60 y = true then some (.bl (!PyData.eqv (py x) (py y))) else none
theorem od_eq : OpD K (rEqD K) gEq := fun B H x y dx dy d hE h1 h2 e Q k => by
  obtain ⟨⟨q1, q2⟩, rfl⟩ := oite e
  exact ⟨_, _, Rp.dp dx 60 x q1 (h1.up hE), Rp.dp dy 60 y q2 (h2.up hE), deep_shaped q1, deep_shaped q2, kp_flat k hE (.bl _)⟩
theorem od_ne : OpD K (rNeD K) gNe := fun B H x y dx dy d hE h1 h2 e Q k => by
  obtain ⟨⟨q1, q2⟩, rfl⟩ := oite e
  exact ⟨_, _, Rp.dp dx 60 x q1 (h1.up hE), Rp.dp dy 60 y q2 (h2.up hE), deep_shaped q1, deep_shaped q2, kp_flat k hE (.bl _)⟩
theorem de_eq {n : Nat} (hr : Room n X.A) (ha : DE X a ta fa) (hb : DE X b tb fb) : DE X (.Compare a [.Eq] [b] pos) (tOp (rEqD X.K) ta tb) (d2 gEq fa fb) := de_cmp (op_eqD hr.units) od_eq ha hb (nomark _)
theorem de_ne {n : Nat} (hr : Room n X.A) (ha : DE X a ta fa) (hb : DE X b tb fb) : DE X (.Compare a [.NotEq] [b] pos) (tOp (rNeD X.K) ta tb) (d2 gNe fa fb) := de_cmp (op_neD hr.units) od_ne ha hb (nomark _)
@[simp] def gIsN (x y : D) : Option D := match y with
  | .non => some (.bl (match x with | .non => true | _ => false))
  | _ => none
@[simp] def gNotN (x y : D) : Option D := match y with
  | .non => some (.bl (match x with | .non => false | _ => true))
  | _ => none
@[simp] def gIx : D → D → Option D
  | .lst ds, .int i => atI ds i
  | .tup ds, .int i => atI ds i
  | .str z, .int i => if z.length ≤ lim then (atI z.cps.toList i).map fun c => .str ⟨#[c]⟩ else none
  | _, _ => none
theorem RpAll.atI {vs : List V} {ds : List D} {i : Int} {d : D} (h : RpAll K B vs ds) (e : atI ds i = some d) : ∃ v, L2.atI vs i = some v ∧ Rp K B v d := by
  unfold L2.atI at e ⊢
  rw [← h.len] at e
  obtain ⟨j, e1, e2⟩ := obind e
  obtain ⟨v, h1, h2⟩ := h.get j e2
  exact ⟨v, by rw [e1]; exact h1, h2⟩
theorem od_ix : OpD K (rIx K) gIx := fun B H x y dx dy d hE h1 h2 e Q k => by
  unfold gIx at e
  split at e
  · cases h2
    cases h1 with
    | lst s r =>
      obtain ⟨v, q1, q2⟩ := r.atI e
      exact .inl ⟨_, _, _, v, rfl, rfl, ex_l hE s, q1, kp_flat k hE q2⟩
  · cases h2
    cases h1 with
    | tup s_ r =>
      have s := SqT.of (K := K) s_
      obtain ⟨v, q1, q2⟩ := r.atI e
      exact .inr (.inl ⟨_, _, _, v, rfl, rfl, ex_t hE s, q1, kp_flat k hE q2⟩)
  · cases h2
    cases h1
    split at e
    · rename_i hl
      obtain ⟨c, q1, rfl⟩ := omap e
      exact .inr (.inr ⟨_, _, c, rfl, rfl, lim_le hl, q1, kp_flat k hE (.str _)⟩)
    · cases e
  · cases e
theorem de_at (ha : DE X a ta fa) (hb : DE X b tb fb) (hs : PlainIx b) : DE X (.Subscript a b pos) (tOp (rIx X.K) ta tb) (d2 gIx fa fb) := de_ix ix_seq od_ix ha hb hs

@[simp] def gInS : D → D → Option D
  | .str x, .str z => match x.cps.toList with
    | [c] => some (.bl (decide (c ∈ z.cps.toList)))
    | _ => none
  | _, _ => none
theorem sign_of {x : Str} {c : Nat} (h : x.cps.toList = [c]) : x = ⟨#[c]⟩ := by
  obtain ⟨⟨l⟩⟩ := x
  cases h
  rfl
theorem od_inS : OpD K rInS gInS := fun B H x y dx dy d hE h1 h2 e Q k => by
  show ∃ (c : Nat) (z : Str), x = .str ⟨#[c]⟩ ∧ y = .str z ∧ Q (.bl (decide (c ∈ z.cps.toList))) H
  unfold gInS at e
  split at e
  · split at e
    · rename_i hc
      cases h1; cases h2; cases e
      refine ⟨_, _, by rw [sign_of hc], rfl, kp_flat k hE (.bl _)⟩
    · cases e
  · cases e
@[simp] def gNotInS (x y : D) : Option D := (gInS x y).bind fun
  | .bl b => some (.bl (!b))
  | _ => none
@[simp] def gInL : D → D → Option D
  | x, .lst ds => if deep 58 x = true ∧ deepAll 58 ds = true then some (.bl ((pyAll ds).any fun z => PyData.eqv z (py x))) else none
  | _, _ => none
@[simp] def gNotInL : D → D → Option D
  | x, .lst ds => if deep 58 x = true ∧ deepAll 58 ds = true then some (.bl (!(pyAll ds).any fun z => PyData.eqv z (py x))) else none
  | _, _ => none
theorem deep_up : ∀ {n : Nat} {d : D}, deep n d = true → (py d).canLay0 = true ∧ (py d).depth ≤ n := fun {n d} h => deep_lay d n h
theorem shaped_of {d : D} {n : Nat} (h : deep n d = true) (hn : n ≤ 64) : SeqAt.shaped (py d) = true := by
  obtain ⟨h1, h2⟩ := deep_lay d n h
  show ((py d).canLay0 && decide ((py d).depth ≤ 64)) = true
  rw [h1, decide_eq_true (by omega)] <;> rfl
theorem od_inL : OpD K (rInD K) gInL := fun B H x y dx dy d hE h1 h2 e Q k => by
  unfold gInL at e
  split at e
  · rename_i ds
    obtain ⟨⟨q1, q2⟩, rfl⟩ := oite e
    have q2' : deep 59 (.lst ds) = true := by rw [deep]; exact q2
    exact ⟨_, _, Rp.dp dx 58 x q1 (h1.up hE), Rp.dp (.lst ds) 59 y q2' (h2.up hE), shaped_of q1 (by omega), shaped_of q2' (by omega), kp_flat k hE (.bl _)⟩
  · cases e
@[simp] def gInT : D → D → Option D
  | x, .tup ds => if x.flat = true ∧ ds.all D.flat = true then some (.bl (inV x.v (ds.map D.v))) else none
  | x, .ctp ds => if x.flat = true ∧ ds.all D.flat = true then some (.bl (inV x.v (ds.map D.v))) else none
  | _, _ => none
@[simp] def gNotInT : D → D → Option D
  | x, .tup ds => if x.flat = true ∧ ds.all D.flat = true then some (.bl (!inV x.v (ds.map D.v))) else none
  | x, .ctp ds => if x.flat = true ∧ ds.all D.flat = true then some (.bl (!inV x.v (ds.map D.v))) else none
  | _, _ => none
theorem RpAll.flat : ∀ {vs : List V} {ds : List D}, RpAll K B vs ds → ds.all D.flat = true → vs = ds.map D.v
  | _, _, .nil, _ => rfl
  | _, _, .cons r t, f => by
    rw [List.all_cons, Bool.and_eq_true] at f
    rw [List.map_cons, r.flat f.1, RpAll.flat t f.2]
theorem de_inS (ha : DE X a ta fa) (hb : DE X b tb fb) (hm : behindInMarks .In b = false) : DE X (.Compare a [.In] [b] pos) (tOp rInS ta tb) (d2 gInS fa fb) := de_cmp op_inS od_inS ha hb hm
end
end DD

namespace DD
open PySem PySem.Spec PyProof.Rows L2 Evl

section
variable {K : PySem.W.Frag} {X : Cx} {pos : Pos} {a b c e : Expr} {ta tb tc te : TE} {fa fb fc f : En → Option D} {B H : Hp} {tt tu : TT} {ft fu : En → Option Bool} {es rest : List Expr} {tr : TA} {fr : En → Option (List D)}

@[simp] def tBl (f : En → Option D) : En → Option Bool := fun en => (f en).bind fun
  | .bl b => some b
  | _ => none
theorem tBl_some {f : En → Option D} {en : En} {b : Bool} (h : tBl f en = some b) : f en = some (.bl b) := by
  obtain ⟨d, h1, h2⟩ := obind h
  cases d <;> first | cases h2; exact h1 | cases h2
theorem ct_test (h : CE K te f) : CT K (tTest te) (tBl f) := fun B0 H0 B H σ en b hE e Q k =>
  h B0 H0 B H σ en _ hE (tBl_some e) _ fun v B1 H1 x r => by
    cases r
    exact ⟨b, rfl, k B1 H1 x⟩
theorem ct_B (h : CE K te f) : CT K (tB te) (tBl f) := fun B0 H0 B H σ en b hE e Q k =>
  h B0 H0 B H σ en _ hE (tBl_some e) _ fun v B1 H1 x r => by
    cases r
    exact ⟨b, rfl, k B1 H1 x⟩
theorem dt_val (h : DE X e te f) (he : ∀ whole, isTrue e X.env whole = (do let v ← whole; standAt e.pos; holding [v] (truthy v)) := by intro _; rfl) : DT X e (tB te) (tBl f) := ⟨pt_val h.p he, ct_B h.c⟩
@[simp] def tNot1 (ft : En → Option Bool) : En → Option Bool := fun en => (ft en).map (!·)
theorem dt_not (h : DT X a tt ft) : DT X (.UnaryOp .Not a pos) (tNot tt) (tNot1 ft) := ⟨pt_not h.p, fun B0 H0 B H σ en b hE e Q k => by
  obtain ⟨c, e1, rfl⟩ := omap e
  exact h.c B0 H0 B H σ en c hE e1 _ fun B1 H1 x => k B1 H1 x⟩
@[simp] def tAnd2 (ft fu : En → Option Bool) : En → Option Bool := fun en => (ft en).bind fun c => if c = true then fu en else some false
@[simp] def tOr2 (ft fu : En → Option Bool) : En → Option Bool := fun en => (ft en).bind fun c => if c = true then some true else fu en
theorem dw_one' (h : DT X a tt ft) : DW X (.BoolOp .Or [a] pos) tt ft := ⟨pw_or1 h.p, h.c⟩
theorem dw_or (h : DT X a tt ft) (h' : DW X (.BoolOp .Or (b :: rest) pos) tu fu) : DW X (.BoolOp .Or (a :: b :: rest) pos) (tOr tt tu) (tOr2 ft fu) := ⟨pw_or h.p h'.p, fun B0 H0 B H σ en c hE e Q k => by
  obtain ⟨d, e1, e⟩ := obind e
  refine h.c B0 H0 B H σ en d hE e1 _ fun B1 H1 x => ?_
  cases d with
  | false => exact h'.c B0 H0 B1 H1 σ en c (hE.up x) e Q fun B2 H2 y => k B2 H2 (x.trans y)
  | true => cases e; exact k B1 H1 x⟩
theorem DW.dt (h : DW X e tt ft) : DT X e tt ft := ⟨h.p.pt, h.c⟩
@[simp] def dAnd2 (fa fb : En → Option D) : En → Option D := fun en => (tBl fa en).bind fun c => if c = true then fb en else some (.bl false)
@[simp] def dOr2 (fa fb : En → Option D) : En → Option D := fun en => (tBl fa en).bind fun c => if c = true then some (.bl true) else fb en
theorem de_one {op} (h : DE X a ta fa) : DE X (.BoolOp op [a] pos) ta fa := ⟨pe_one h.p, h.c⟩
theorem de_and (h : DE X a ta fa) (h' : DE X (.BoolOp .And (b :: rest) pos) tb fb) : DE X (.BoolOp .And (a :: b :: rest) pos) (tAndV ta tb) (dAnd2 fa fb) := ⟨pe_and h.p h'.p, fun B0 H0 B H σ en d hE e Q k => by
  obtain ⟨c, e1, e⟩ := obind e
  refine h.c B0 H0 B H σ en _ hE (tBl_some e1) _ fun v B1 H1 x r => ?_
  cases r
  refine ⟨c, rfl, ?_⟩
  cases c with
  | true => exact h'.c B0 H0 B1 H1 σ en d (hE.up x) e Q fun v B2 H2 y r => k v B2 H2 (x.trans y) r
  | false => cases e; exact k _ B1 H1 x (.bl _)⟩
theorem de_or (h : DE X a ta fa) (h' : DE X (.BoolOp .Or (b :: rest) pos) tb fb) : DE X (.BoolOp .Or (a :: b :: rest) pos) (tOrV ta tb) (dOr2 fa fb) := ⟨pe_or h.p h'.p, fun B0 H0 B H σ en d hE e Q k => by
  obtain ⟨c, e1, e⟩ := obind e
  refine h.c B0 H0 B H σ en _ hE (tBl_some e1) _ fun v B1 H1 x r => ?_
  cases r
  refine ⟨c, rfl, ?_⟩
  cases c with
  | false => exact h'.c B0 H0 B1 H1 σ en d (hE.up x) e Q fun v B2 H2 y r => k v B2 H2 (x.trans y) r
  | true => cases e; exact k _ B1 H1 x (.bl _)⟩
@[simp] def dNot (fa : En → Option D) : En → Option D := fun en => (tBl fa en).map fun c => .bl (!c)
@[simp] def dIf (ft : En → Option Bool) (fa fb : En → Option D) : En → Option D := fun en => (ft en).bind fun c => if c = true then fa en else fb en
@[simp] def tru : D → Option Bool
  | .non => some false
  | .bl b => some b
  | .int i => some (i != 0)
  | .lst ds => some (!ds.isEmpty)
  | .tup ds => some (!ds.isEmpty)
  | .str x => if x.length ≤ lim then some (((x.length : Nat) : Int) != 0) else none
  | _ => none
theorem tru_of {v : V} {d : D} {b : Bool} (hE : Ex B H) (r : Rp K B v d) (h : tru d = some b) : TruV K v H b := by
  unfold tru at h
  split at h
  · cases r; cases h; exact rfl
  · cases r; cases h; exact rfl
  · cases r; cases h; exact rfl
  · cases r with
    | lst s q =>
      cases h
      refine .inl ⟨_, ex_l hE s, ?_⟩
      cases q <;> rfl
  · cases r with
    | tup s q =>
      cases h
      refine .inr (.inl ⟨_, ex_t hE (SqT.of (K := K) s), ?_⟩)
      cases q <;> rfl
  · cases r
    obtain ⟨h1, rfl⟩ := oite h
    exact ⟨lim_le h1, rfl⟩
  · cases h
@[simp] def tTr (f : En → Option D) : En → Option Bool := fun en => (f en).bind tru
theorem dt_tr (h : DE X a ta fa) (he : ∀ whole, isTrue a X.env whole = (do let v ← whole; standAt a.pos; holding [v] (truthy v)) := by intro _; rfl) : DT X a (fun σ H Q => ta σ H fun x H' => ∃ k, TruV X.K x H' k ∧ Q k H') (tTr fa) := ⟨pt_truth h.p he, fun B0 H0 B H σ en b hE e Q k => by
  obtain ⟨d, e1, e⟩ := obind e
  refine h.c B0 H0 B H σ en d hE e1 _ fun v B1 H1 x r => ?_
  exact ⟨b, tru_of x.bh r e, k B1 H1 x⟩⟩

@[simp] def aNil : En → Option (List D) := fun _ => some []
@[simp] def aCons (f : En → Option D) (g : En → Option (List D)) : En → Option (List D) := fun en => (f en).bind fun d => (g en).map fun ds => d :: ds
theorem da_nil : DA X [] tNil aNil := ⟨pa_nil, fun B0 H0 B H σ en ds hE e Q k => by
  cases e
  exact k [] B H (Ext.refl hE.bh) .nil⟩
theorem da_cons (h : DE X e te f) (hr : DA X es tr fr) (hs : starEach (e :: es) X.env = (false, eval e X.env) :: starEach es X.env := by rfl) : DA X (e :: es) (tCons te tr) (aCons f fr) := ⟨pa_cons h.p hr.p hs, fun B0 H0 B H σ en ds hE e Q k => by
  obtain ⟨d, e1, e⟩ := obind e
  obtain ⟨r, e2, rfl⟩ := omap e
  refine h.c B0 H0 B H σ en d hE e1 _ fun v B1 H1 x r1 => ?_
  exact hr.c B0 H0 B1 H1 σ en r (hE.up x) e2 _ fun vs B2 H2 y r2 => k _ B2 H2 (x.trans y) (.cons (r1.up y.bb) r2)⟩
@[simp] def dTup (g : En → Option (List D)) : En → Option D := fun en => (g en).bind fun ds => if ds.length ≤ lim then some (.tup ds) else none
theorem de_tup {x1} (h : DA X es tr fr) : DE X (.Tuple es x1 pos) (tTup tr) (dTup fr) := ⟨pe_tup h.p, fun B0 H0 B H σ en d hE e Q k => by
  obtain ⟨ds, e1, e⟩ := obind e
  obtain ⟨hl, rfl⟩ := oite e
  refine h.c B0 H0 B H σ en ds hE e1 _ fun vs B1 H1 x r => ⟨by rw [r.len]; exact lim_le hl, fun p hp => ?_⟩
  exact k _ _ _ (x.trans (Ext.new x.bh hp)) (.tup upd_same (r.up (Ex.new (fresh_back x.bh hp))))⟩
@[simp] def lLst (g : En → Option (List D)) : En → Option (List D) := fun en => (g en).bind fun ds => if ds.length ≤ lim then some ds else none
theorem ext_fresh {B' H' : Hp} {p : Addr} (x : Ext B H B' H') (h : H' p = none) : H p = none := fresh_back x.hh h
theorem dl_lst (h : DA X es tr fr) : DL X (.List es pos) (tLst tr) (lLst fr) := ⟨pe_lst h.p, fun B0 H0 B H σ en d hE e Q k => by
  obtain ⟨ds, e1, e⟩ := obind e
  obtain ⟨hl, rfl⟩ := oite e
  refine h.c B0 H0 B H σ en ds hE e1 _ fun vs B1 H1 x r => ⟨by rw [r.len]; exact lim_le hl, fun p hp => ?_⟩
  exact k p vs B1 _ (x.trans (Ext.newM x.bh hp)) (ext_fresh x hp) (fresh_back x.bh hp) upd_same r⟩
@[simp] def dL (g : En → Option (List D)) : En → Option D := fun en => (g en).map .lst
theorem ext_keep {B' H' : Hp} {p : Addr} {o : HO} (x : Ext B H B' H') (h0 : H p = none) (hb : B' p = none) (h : H' p = some o) : Ext B H (upd B' p o) H' := by
  refine ⟨x.bb.trans (Ex.new hb), fun a u q => ?_, x.hh, fun q hq => ?_⟩
  · by_cases ha : a = p
    · subst ha; rw [upd_same] at q; rw [h, ← q]
    · rw [upd_ne ha] at q; exact x.bh a u q
  · rw [upd_ne (by rintro rfl; exact hq.1 h0)]; exact x.st q hq
theorem ce_L {g : En → Option (List D)} (h : CL K te g) : CE K te (dL g) := fun B0 H0 B H σ en d hE e Q k => by
  obtain ⟨ds, e1, rfl⟩ := omap e
  refine h B0 H0 B H σ en ds hE e1 _ fun p vs B1 H1 x h0 hb hp r => ?_
  exact k _ _ _ (ext_keep x h0 hb hp) (.lst (SqL.of upd_same) (r.up (Ex.new hb)))
theorem DL.de {g : En → Option (List D)} (h : DL X e te g) : DE X e te (dL g) := ⟨h.p, ce_L h.c⟩
@[simp] def lCat (g g' : En → Option (List D)) : En → Option (List D) := fun en => (g en).bind fun xs => (g' en).bind fun ys => if xs.length + ys.length ≤ lim then some (xs ++ ys) else none
@[simp] def lRep (g : En → Option (List D)) (f : En → Option D) : En → Option (List D) := fun en => (g en).bind fun xs => (f en).bind fun
  | .int n => if n.natAbs ≤ 1000 ∧ xs.length ≤ 1000 then some (List.replicate n.toNat xs).flatten else none
  | _ => none
def ClD (K : PySem.W.Frag) (r : List V → Hp → VK → Prop) (g : List D → Option D) : Prop := ∀ B H vs ds d, Ex B H → RpAll K B vs ds → g ds = some d → ∀ Q : VK, Kp K B H d Q → r vs H Q
@[simp] def dCB (g : List D → Option D) (fr : En → Option (List D)) : En → Option D := fun en => (fr en).bind g
theorem ce_cb {r : List V → Hp → VK → Prop} {g : List D → Option D} (hr : ClD K r g) (h : CA K tr fr) : CE K (tCB r tr) (dCB g fr) := fun B0 H0 B H σ en d hE e Q k => by
  obtain ⟨ds, e1, e⟩ := obind e
  refine h B0 H0 B H σ en ds hE e1 _ fun vs B1 H1 x q => ?_
  exact hr B1 H1 vs ds d x.bh q e Q fun v B2 H2 y r2 => k v B2 H2 (x.trans y) r2
theorem ClD.or {r r' : List V → Hp → VK → Prop} {g g' : List D → Option D} (h : ClD K r g) (h' : ClD K r' g') : ClD K (fun xs H Q => r xs H Q ∨ r' xs H Q) (fun ds => (g ds).or (g' ds)) := fun B H vs ds d hE hr e Q k => by
  have e : (g ds).or (g' ds) = some d := e
  cases q : g ds with
  | some z => rw [q] at e; cases e; exact .inl (h B H vs ds _ hE hr q Q k)
  | none => rw [q] at e; exact .inr (h' B H vs ds d hE hr e Q k)
@[simp] def gLen : List D → Option D
  | [.lst ds] => some (.int ds.length)
  | [.tup ds] => some (.int ds.length)
  | [.str z] => if z.length ≤ lim then some (.int z.length) else none
  | [.dic ks _] => some (.int ks.length)
  | _ => none
def rLenA (K : PySem.W.Frag) : List V → Hp → VK → Prop := fun xs H Q => (∃ p ys, xs = [.ref p] ∧ (SqL K H p ys ∨ SqT K H p ys) ∧ Q (.int ys.length) H) ∨ ((∃ z, xs = [.str z] ∧ z.length ≤ sizeLine ∧ Q (.int z.length) H) ∨ (∃ a kvs, xs = [V.ref a] ∧ Rd H a (.dK kvs) ∧ Q (.int kvs.length) H))
theorem call_lenR : CallR X (.builtin "len") (fun xs H Q => ∃ a kvs, xs = [V.ref a] ∧ Rd H a (.dK kvs) ∧ Q (.int kvs.length) H) := by
  intro pins s σ H xs us Q I r h
  obtain ⟨a, kvs, rfl, ha, q⟩ := h
  obtain ⟨u, rfl, ru⟩ := vals1 r
  cases ru
  exact d_len I ha fun t s' I' => ⟨.int kvs.length, H, I', ⟨t, rfl⟩, q⟩
theorem call_lenA : CallR X (.builtin "len") (rLenA X.K) := call_len_seq.or (call_len_str.or call_lenR)
theorem RpAll.one {vs : List V} {d : D} (h : RpAll K B vs [d]) : ∃ v, vs = [v] ∧ Rp K B v d := by
  cases h with
  | cons a b => cases b; exact ⟨_, rfl, a⟩
theorem RpAll.two {vs : List V} {d d' : D} (h : RpAll K B vs [d, d']) : ∃ v v', vs = [v, v'] ∧ Rp K B v d ∧ Rp K B v' d' := by
  cases h with
  | cons a b =>
    cases b with
    | cons a' b' => cases b'; exact ⟨_, _, rfl, a, a'⟩
theorem cl_len : ClD K (rLenA K) gLen := fun B H vs ds d hE hr e Q k => by
  unfold gLen at e
  split at e
  · obtain ⟨v, rfl, r⟩ := hr.one
    cases e
    cases r with
    | lst s q => exact .inl ⟨_, _, rfl, .inl (ex_l hE s), by rw [q.len]; exact kp_flat k hE (.int _)⟩
  · obtain ⟨v, rfl, r⟩ := hr.one
    cases e
    cases r with
    | tup s_ q => have s := SqT.of (K := K) s_; exact .inl ⟨_, _, rfl, .inr (ex_t hE s), by rw [q.len]; exact kp_flat k hE (.int _)⟩
  · obtain ⟨v, rfl, r⟩ := hr.one
    obtain ⟨hl, rfl⟩ := oite e
    cases r
    exact .inr (.inl ⟨_, rfl, lim_le hl, kp_flat k hE (.int _)⟩)
  · obtain ⟨v, rfl, r⟩ := hr.one
    cases e
    cases r with
    | dic s q =>
      refine .inr (.inr ⟨_, _, rfl, ex_rd hE s, ?_⟩)
      rw [List.length_map] at k
      exact kp_flat k hE (.int _)
  · cases e
theorem de_len {p : Pos} (hg : Gl X "len") (hm : X.mg "len" = none) (ha : DE X a ta fa) (hs : starEach [a] X.env = (false, eval a X.env) :: starEach [] X.env := by rfl) (hpl : (backTo pos (starEach [] X.env)).any (·.1) = false := by rfl) :
    DE X (.Call (.Name "len" p) [a] [] pos) (tCB (rLenA X.K) (tCons ta tNil)) (dCB gLen (aCons fa aNil)) := ⟨pe_callB call_lenA hg hm PySem.boot_len (pa_cons ha.p pa_nil hs) (by decide) (by decide) hs hpl, ce_cb cl_len (da_cons ha da_nil hs).c⟩
@[simp] def gMin2 : List D → Option D
  | [.int i, .int j] => some (.int (if j < i then j else i))
  | _ => none
@[simp] def gMax2 : List D → Option D
  | [.int i, .int j] => some (.int (if j > i then j else i))
  | _ => none
def intsOf : List D → Option (List Int)
  | [] => some []
  | .int i :: r => (intsOf r).map (i :: ·)
  | _ :: _ => none
theorem RpAll.ints : ∀ {vs : List V} {ds : List D} {ns : List Int}, RpAll K B vs ds → DD.intsOf ds = some ns → vs = ns.map V.int
  | _, _, _, .nil, e => by cases e; rfl
  | _, _, _, .cons (d := d) r t, e => by
    cases d <;> first | (unfold DD.intsOf at e; cases e; done) | skip
    unfold DD.intsOf at e
    obtain ⟨ms, e1, rfl⟩ := omap e
    cases r
    rw [RpAll.ints t e1] <;> rfl
@[simp] def gSum : List D → Option D
  | [.lst ds] => (intsOf ds).map fun ns => .int ns.sum
  | _ => none
theorem cl_sum : ClD K (rSum K) gSum := fun B H vs ds d hE hr e Q k => by
  unfold gSum at e
  split at e
  · obtain ⟨v, rfl, r⟩ := hr.one
    obtain ⟨ns, e1, rfl⟩ := omap e
    cases r with
    | lst s q =>
      have := q.ints e1
      subst this
      exact ⟨_, ns, rfl, ex_l hE s, kp_flat k hE (.int _)⟩
  · cases e
theorem de_sum {p : Pos} (hc : X.calm = true) (hg : Gl X "sum") (hm : X.mg "sum" = none) (ha : DE X a ta fa) (hs : starEach [a] X.env = (false, eval a X.env) :: starEach [] X.env := by rfl) (hpl : (backTo pos (starEach [] X.env)).any (·.1) = false := by rfl) :
    DE X (.Call (.Name "sum" p) [a] [] pos) (tCB (rSum X.K) (tCons ta tNil)) (dCB gSum (aCons fa aNil)) := ⟨pe_callB (cr_sum hc) hg hm (by decide +kernel) (pa_cons ha.p pa_nil hs) (by decide) (by decide) hs hpl, ce_cb cl_sum (da_cons ha da_nil hs).c⟩
def boolsOf : List D → Option (List Bool)
  | [] => some []
  | .bl i :: r => (boolsOf r).map (i :: ·)
  | _ :: _ => none
theorem RpAll.bools : ∀ {vs : List V} {ds : List D} {ns : List Bool}, RpAll K B vs ds → DD.boolsOf ds = some ns → vs = ns.map V.bl
  | _, _, _, .nil, e => by cases e; rfl
  | _, _, _, .cons (d := d) r t, e => by
    cases d <;> first | (unfold DD.boolsOf at e; cases e; done) | skip
    unfold DD.boolsOf at e
    obtain ⟨ms, e1, rfl⟩ := omap e
    cases r
    rw [RpAll.bools t e1] <;> rfl
@[simp] def gAll : List D → Option D
  | [.lst ds] => (boolsOf ds).map fun ns => .bl (ns.all id)
  | _ => none
@[simp] def gAny : List D → Option D
  | [.lst ds] => (boolsOf ds).map fun ns => .bl (ns.any id)
  | _ => none
theorem cl_all : ClD K (rAll K) gAll := fun B H vs ds d hE hr e Q k => by
  unfold gAll at e
  split at e
  · obtain ⟨v, rfl, r⟩ := hr.one
    obtain ⟨ns, e1, rfl⟩ := omap e
    cases r with
    | lst s q =>
      have := q.bools e1
      subst this
      exact ⟨_, ns, rfl, ex_l hE s, kp_flat k hE (.bl _)⟩
  · cases e
theorem cl_any : ClD K (rAny K) gAny := fun B H vs ds d hE hr e Q k => by
  unfold gAny at e
  split at e
  · obtain ⟨v, rfl, r⟩ := hr.one
    obtain ⟨ns, e1, rfl⟩ := omap e
    cases r with
    | lst s q =>
      have := q.bools e1
      subst this
      exact ⟨_, ns, rfl, ex_l hE s, kp_flat k hE (.bl _)⟩
  · cases e
theorem de_all {p : Pos} (hc : X.calm = true) (hg : Gl X "all") (hm : X.mg "all" = none) (ha : DE X a ta fa) (hs : starEach [a] X.env = (false, eval a X.env) :: starEach [] X.env := by rfl) (hpl : (backTo pos (starEach [] X.env)).any (·.1) = false := by rfl) :
    DE X (.Call (.Name "all" p) [a] [] pos) (tCB (rAll X.K) (tCons ta tNil)) (dCB gAll (aCons fa aNil)) := ⟨pe_callB (cr_all hc) hg hm (by decide +kernel) (pa_cons ha.p pa_nil hs) (by decide) (by decide) hs hpl, ce_cb cl_all (da_cons ha da_nil hs).c⟩
theorem de_any {p : Pos} (hc : X.calm = true) (hg : Gl X "any") (hm : X.mg "any" = none) (ha : DE X a ta fa) (hs : starEach [a] X.env = (false, eval a X.env) :: starEach [] X.env := by rfl) (hpl : (backTo pos (starEach [] X.env)).any (·.1) = false := by rfl) :
    DE X (.Call (.Name "any" p) [a] [] pos) (tCB (rAny X.K) (tCons ta tNil)) (dCB gAny (aCons fa aNil)) := ⟨pe_callB (cr_any hc) hg hm (by decide +kernel) (pa_cons ha.p pa_nil hs) (by decide) (by decide) hs hpl, ce_cb cl_any (da_cons ha da_nil hs).c⟩
@[simp] def gTuple : List D → Option D
  | [.lst ds] => some (.tup ds)
  | [.tup ds] => some (.tup ds)
  | _ => none
def rTupleOf (K : PySem.W.Frag) : List V → Hp → VK → Prop := fun xs H Q => ∃ p ys, xs = [.ref p] ∧ ((SqL K H p ys ∧ ∀ l, H l = none → Q (.ref l) (upd H l (.tup ys))) ∨ (SqT K H p ys ∧ Q (.ref p) H))
theorem cl_tuple : ClD K (rTupleOf K) gTuple := fun B H vs ds d hE hr e Q k => by
  unfold gTuple at e
  split at e
  · obtain ⟨v, rfl, r⟩ := hr.one
    cases e
    cases r with
    | lst s q => exact ⟨_, _, rfl, .inl ⟨ex_l hE s, fun l hl => k _ _ _ (Ext.new hE hl) (.tup upd_same (q.up (Ex.new (fresh_back hE hl))))⟩⟩
  · obtain ⟨v, rfl, r⟩ := hr.one
    cases e
    cases r with
    | tup s_ q => have s := SqT.of (K := K) s_; exact ⟨_, _, rfl, .inr ⟨ex_t hE s, kp_flat k hE (.tup s_ q)⟩⟩
  · cases e
theorem de_tuple {p : Pos} (hg : Gl X "tuple") (hm : X.mg "tuple" = none) (ha : DE X a ta fa) (hs : starEach [a] X.env = (false, eval a X.env) :: starEach [] X.env := by rfl) (hpl : (backTo pos (starEach [] X.env)).any (·.1) = false := by rfl) :
    DE X (.Call (.Name "tuple" p) [a] [] pos) (tCB (rTupleOf X.K) (tCons ta tNil)) (dCB gTuple (aCons fa aNil)) := ⟨pe_callTy call_tuple_of hg hm (by decide +kernel) (pa_cons ha.p pa_nil hs) (by decide) (by decide) hs hpl, ce_cb cl_tuple (da_cons ha da_nil hs).c⟩
@[simp] def lListOf (f : En → Option D) : En → Option (List D) := fun en => (f en).bind fun
  | .lst ds => some ds
  | .tup ds => some ds
  | _ => none
def rListOf (K : PySem.W.Frag) : List V → Hp → VK → Prop := fun xs H Q => ∃ p ys, xs = [.ref p] ∧ (SqL K H p ys ∨ SqT K H p ys) ∧ ∀ l, H l = none → Q (.ref l) (upd H l (.lst ys))
theorem dl_list {p : Pos} (hg : Gl X "list") (hm : X.mg "list" = none) (ha : DE X a ta fa) (hs : starEach [a] X.env = (false, eval a X.env) :: starEach [] X.env := by rfl) (hpl : (backTo pos (starEach [] X.env)).any (·.1) = false := by rfl) :
    DL X (.Call (.Name "list" p) [a] [] pos) (tCB (rListOf X.K) (tCons ta tNil)) (lListOf fa) := ⟨pe_callTy call_list_of hg hm (by decide +kernel) (pa_cons ha.p pa_nil hs) (by decide) (by decide) hs hpl, fun B0 H0 B H σ en ds hE e Q k => by
  obtain ⟨d, e1, e⟩ := obind e
  refine ha.c B0 H0 B H σ en d hE e1 _ fun v B1 H1 x r => ?_
  split at e
  · cases e
    cases r with
    | lst s q => exact ⟨_, _, rfl, .inl (ex_l x.bh s), fun l hl => k l _ B1 _ (x.trans (Ext.newM x.bh hl)) (ext_fresh x hl) (fresh_back x.bh hl) upd_same q⟩
  · cases e
    cases r with
    | tup s_ q => have s := SqT.of (K := X.K) s_; exact ⟨_, _, rfl, .inr (ex_t x.bh s), fun l hl => k l _ B1 _ (x.trans (Ext.newM x.bh hl)) (ext_fresh x hl) (fresh_back x.bh hl) upd_same q⟩
  · cases e⟩
end
end DD

namespace DD
open PySem PySem.Spec PyProof.Rows L2 Evl

section
variable {K : PySem.W.Frag} {X : Cx} {pos : Pos} {a b c e : Expr} {ta tb tc te : TE} {fa fb fc f : En → Option D} {B H : Hp} {tt tu : TT} {ft fu : En → Option Bool} {es rest : List Expr} {tr : TA} {fr : En → Option (List D)}

@[simp] def lSplit (fa fb : En → Option D) : En → Option (List D) := fun en => (fa en).bind fun x => (fb en).bind fun y => match x, y with
  | .str a, .str b => if (b.length == 0) = false ∧ a.length + 2 ≤ lim then some ((Txt.split a b).map D.str) else none
  | _, _ => none
theorem rp_strs : ∀ ys : List Str, RpAll K B (ys.map V.str) (ys.map D.str)
  | [] => .nil
  | y :: ys => .cons (.str y) (rp_strs ys)
def strsOf : List D → Option (List Str)
  | [] => some []
  | .str i :: r => (strsOf r).map (i :: ·)
  | _ :: _ => none
theorem RpAll.strsOf : ∀ {vs : List V} {ds : List D} {ns : List Str}, RpAll K B vs ds → DD.strsOf ds = some ns → vs = ns.map V.str
  | _, _, _, .nil, e => by cases e; rfl
  | _, _, _, .cons (d := d) r t, e => by
    cases d <;> first | (unfold DD.strsOf at e; cases e; done) | skip
    unfold DD.strsOf at e
    obtain ⟨ms, e1, rfl⟩ := omap e
    cases r
    rw [RpAll.strsOf t e1] <;> rfl
@[simp] def dJoin (fa fb : En → Option D) : En → Option D := fun en => (fa en).bind fun x => (fb en).bind fun y => match x, y with
  | .str a, .lst ds => (strsOf ds).bind fun ys => if (ys.map (·.length)).sum + ys.length * a.length ≤ lim then some (.str (Txt.join a ys)) else none
  | .str a, .tup ds => (strsOf ds).bind fun ys => if (ys.map (·.length)).sum + ys.length * a.length ≤ lim then some (.str (Txt.join a ys)) else none
  | _, _ => none
@[simp] def keyOf : D → Option Key
  | .int i => some (.inl i)
  | .str x => some (.inr x)
  | _ => none
theorem key_of_rp {v : V} {d : D} {k : Key} (h : Rp K B v d) (e : keyOf d = some k) : v = kV k := by
  cases h <;> cases e <;> rfl
def look : List Key → List D → Key → Option D
  | j :: ks, d :: ds, k => if j = k then some d else look ks ds k
  | _, _, _ => none
theorem look_val : ∀ {kvs : List (Key × V)} {ds : List D} {k : Key}, RpAll K B (kvs.map (·.2)) ds → (∀ d, look (kvs.map (·.1)) ds k = some d → ∃ v, valV kvs k = some v ∧ Rp K B v d) ∧ (look (kvs.map (·.1)) ds k = none → valV kvs k = none)
  | [], _, k, h => by
    cases h
    refine ⟨fun d e => ?_, fun _ => rfl⟩
    have e : (none : Option D) = some d := e
    cases e
  | p :: r, _, k, h => by
    cases h with
    | cons h1 h2 =>
      obtain ⟨i1, i2⟩ := look_val (k := k) h2
      by_cases e : p.1 = k
      · refine ⟨fun d q => ?_, fun q => ?_⟩
        · have q : (if p.1 = k then some _ else _) = some d := q
          rw [if_pos e] at q; cases q
          exact ⟨p.2, valV_pos e, h1⟩
        · have q : (if p.1 = k then some _ else _) = none := q
          rw [if_pos e] at q; cases q
      · refine ⟨fun d q => ?_, fun q => ?_⟩
        · have q : (if p.1 = k then some _ else look (r.map (·.1)) _ k) = some d := q
          rw [if_neg e] at q
          rw [valV_neg e]
          exact i1 d q
        · have q : (if p.1 = k then some _ else look (r.map (·.1)) _ k) = none := q
          rw [if_neg e] at q
          rw [valV_neg e]
          exact i2 q
def putKs : List Key → List D → Key → D → List Key × List D
  | j :: ks, d :: ds, k, x => if j = k then (j :: ks, x :: ds) else (j :: (putKs ks ds k x).1, d :: (putKs ks ds k x).2)
  | _, _, k, x => ([k], [x])
theorem dget_at {a : Addr} {kvs : List (Key × V)} {k : Key} (h : Rd H a (.dK kvs)) : DGet H a (kV k) (valV kvs k) := .inl ⟨kvs, k, h, rfl, rfl⟩
@[simp] def dDget (fa fb : En → Option D) : En → Option D := fun en => (fa en).bind fun x => (fb en).bind fun y => (keyOf y).bind fun k => match x with
  | .dic ks ds => look ks ds k
  | _ => none
theorem de_dget {n : Nat} (hr : Room n X.A) (ha : DE X a ta fa) (hb : DE X b tb fb) (hs : NoSl b := by intro _ _; rfl) : DE X (.Subscript a b pos) (tDGet ta tb) (dDget fa fb) := ⟨pe_dget (by have := hr.un; omega) ha.p hb.p hs, fun B0 H0 B H σ en d hE e Q k => by
  obtain ⟨x, e1, e⟩ := obind e
  obtain ⟨y, e2, e⟩ := obind e
  obtain ⟨j, e3, e⟩ := obind e
  refine ha.c B0 H0 B H σ en x hE e1 _ fun v B1 H1 x1 r1 => ?_
  refine hb.c B0 H0 B1 H1 σ en y (hE.up x1) e2 _ fun u B2 H2 x2 r2 => ?_
  split at e
  · cases r1 with
    | dic s q =>
      obtain ⟨w, h1, h2⟩ := (look_val q).1 d e
      have := key_of_rp r2 e3
      subst this
      have g := dget_at (k := j) (ex_rd x2.bh (ex_rd x2.bb s))
      rw [h1] at g
      exact ⟨_, w, rfl, g, k w B2 H2 (x1.trans x2) (h2.up x2.bb)⟩
  · cases e⟩
@[simp] def dDin (neg : Bool) (fa fb : En → Option D) : En → Option D := fun en => (fa en).bind fun y => (fb en).bind fun x => (keyOf y).bind fun k => match x with
  | .dic ks ds => some (.bl (if neg then !(look ks ds k).isSome else (look ks ds k).isSome))
  | _ => none
@[simp] def dDget2 (fa fb fc : En → Option D) : En → Option D := fun en => (fa en).bind fun x => (fb en).bind fun y => (fc en).bind fun z => (keyOf y).bind fun k => match x with
  | .dic ks ds => some ((look ks ds k).getD z)
  | _ => none
theorem de_dget2 {n : Nat} {apos cpos : Pos} (hr : Room n X.A) (ha : DE X a ta fa) (hb : DE X b tb fb) (hc : DE X c tc fc) (m : M2 X a "get" apos b c cpos) : DE X (.Call (.Attribute a "get" apos) [b, c] [] cpos) (tDGet2 ta tb tc) (dDget2 fa fb fc) := ⟨pe_dget2 (by have := hr.un; omega) ha.p hb.p hc.p m, fun B0 H0 B H σ en d hE e Q k => by
  obtain ⟨x, e1, e⟩ := obind e
  obtain ⟨y, e2, e⟩ := obind e
  obtain ⟨z, e4, e⟩ := obind e
  obtain ⟨j, e3, e⟩ := obind e
  refine ha.c B0 H0 B H σ en x hE e1 _ fun v B1 H1 x1 r1 => ?_
  split at e
  · cases r1 with
    | dic s q =>
      refine ⟨_, rfl, .inl ⟨_, ex_rd x1.bh s⟩, ?_⟩
      refine hb.c B0 H0 B1 H1 σ en y (hE.up x1) e2 _ fun u B2 H2 x2 r2 => ?_
      refine hc.c B0 H0 B2 H2 σ en z (hE.up (x1.trans x2)) e4 _ fun w B3 H3 x3 r3 => ?_
      have := key_of_rp r2 e3
      subst this
      refine ⟨_, dget_at (ex_rd x3.bh (ex_rd (x2.bb.trans x3.bb) s)), ?_⟩
      cases e
      obtain ⟨i1, i2⟩ := look_val (k := j) q
      refine k _ B3 H3 ((x1.trans x2).trans x3) ?_
      cases hl : look (_ : List Key) _ j with
      | none => rw [i2 hl]; exact r3
      | some d => obtain ⟨v, h1, h2⟩ := i1 d hl; rw [h1]; exact h2.up (x2.bb.trans x3.bb)
  · cases e⟩

def thawT (t : Tr) : Sl := match t.d with
  | some d => .dat d
  | none => .ro t
@[simp] def Sl.thaw : Sl → Sl
  | .own ds => .dat (.lst ds)
  | .owd ks ds => .dat (.dic ks ds)
  | .owt ks ds => .dat (.dit ks ds)
  | .tre t => thawT t
  | .par t => thawT t
  | .ex _ _ => .no
  | s => s
@[simp] def dScal (f : En → Option D) : En → Option D := fun en => (f (en.map Sl.thaw)).bind fun d => if d.flat = true then some d else none
theorem thawT_or (t : Tr) : (∃ d, t.d = some d ∧ thawT t = .dat d) ∨ (t.d = none ∧ thawT t = .ro t) := by
  unfold thawT
  cases h : t.d with
  | none => exact .inr ⟨rfl, rfl⟩
  | some d => exact .inl ⟨d, rfl, rfl⟩
theorem thaw_no_par {s : Sl} {t : Tr} : s.thaw ≠ .par t := by
  have k : ∀ u, thawT u ≠ .par t := fun u z => by
    rcases thawT_or u with ⟨d, _, e⟩ | ⟨_, e⟩ <;> rw [e] at z <;> cases z
  cases s with
  | tre u => exact k u
  | par u => exact k u
  | _ => exact fun z => nomatch z
theorem thaw_ro {s : Sl} {t : Tr} (h : s.thaw = .ro t) : s = .ro t ∨ (s = .tre t ∨ s = .par t) ∧ t.d = none := by
  have k : ∀ u, thawT u = .ro t → u = t ∧ t.d = none := fun u z => by
    rcases thawT_or u with ⟨d, _, e⟩ | ⟨n, e⟩
    · rw [e] at z; cases z
    · rw [e] at z; cases z; exact ⟨rfl, n⟩
  cases s with
  | tre u => obtain ⟨rfl, n⟩ := k u h; exact .inr ⟨.inl rfl, n⟩
  | par u => obtain ⟨rfl, n⟩ := k u h; exact .inr ⟨.inr rfl, n⟩
  | ro u => cases h; exact .inl rfl
  | _ => cases h
theorem thaw_ft {s : Sl} {o : Option V} {q : Addr} : ¬ Ft K B H s.thaw o q := by
  have k : ∀ u, ¬ Ft K B H (thawT u) o q := fun u => by
    rcases thawT_or u with ⟨d, _, e⟩ | ⟨_, e⟩ <;> rw [e] <;> exact id
  cases s with
  | tre u => exact k u
  | par u => exact k u
  | _ => exact id
theorem SlOk.thaw {B1 : Hp} {s : Sl} {o : Option V} (h : SlOk K B H s o) (hB : Ex B B1) (k : ∀ d, s.thaw = .dat d → ∀ q, Ft K B H s o q → ∀ u, H q = some u → B1 q = some u) : SlOk K B1 H s.thaw o := by
  have tr : ∀ (t : Tr) (v : V) (A : List Addr), o = some v → Ow K B H t v A → (∀ d, t.d = some d → ∀ q ∈ A, ∀ u, H q = some u → B1 q = some u) → SlOk K B1 H (thawT t) o := fun t v A e w kk => by
    rcases thawT_or t with ⟨d, hd, e2⟩ | ⟨_, e2⟩
    · rw [e2]; exact ⟨v, e, Ow.rp hB t v A d w (kk d hd) hd⟩
    · rw [e2]; trivial
  cases s with
  | no => trivial
  | dat d => obtain ⟨v, q1, q2⟩ := h; exact ⟨v, q1, q2.up hB⟩
  | own ds =>
    obtain ⟨p, vs, rfl, q2, q3, q4⟩ := h
    exact ⟨_, rfl, .lst (SqL.of (k _ rfl _ rfl _ q3)) (q4.up hB)⟩
  | owd ks ds =>
    obtain ⟨p, vs, rfl, q2, q3, rfl, q4⟩ := h
    exact ⟨_, rfl, .dic (.inl (k _ rfl _ rfl _ q3)) (q4.up hB)⟩
  | owt ks ds =>
    obtain ⟨p, vs, rfl, q2, q3, rfl, q4⟩ := h
    exact ⟨_, rfl, .dit (.inl (k _ rfl _ rfl _ q3)) (q4.up hB)⟩
  | tre t =>
    obtain ⟨v, A, e, w⟩ := h
    exact tr t v A e w fun d hd q hq u hu => k d (by show thawT t = _; unfold thawT; rw [hd]) q ⟨v, A, e, w, hq⟩ u hu
  | par t =>
    obtain ⟨v, A, e, w⟩ := h
    exact tr t v A e w fun d hd q hq u hu => k d (by show thawT t = _; unfold thawT; rw [hd]) q ⟨v, A, e, w, hq⟩ u hu
  | ro t => trivial
  | ex p u => trivial
theorem EnOk.roH {B0 : Hp} {H0 : HB} {σ : L2.St} {en : En} (h : EnOk K B0 H0 B H σ en) {t : Tr} {v : V} {A : List Addr} (w : Ow K B0 H0 t v A) : (∀ q ∈ A, H q = H0 q ∧ B q = none) ∧ Ow K B H t v A := by
  have k : ∀ q ∈ A, H q = H0 q ∧ B q = none := fun q hq => by
    obtain ⟨f1, f2⟩ := Ow.free t v A w q hq
    refine ⟨?_, (h.ext.st q f2).trans f1⟩
    cases c : (H0 : Hp) q with
    | none => exact absurd c f2.1
    | some u => exact h.ext.hh q u c
  exact ⟨k, Ow.mono h.ext.bb t v A w k⟩
open Classical in
theorem EnOk.thawX {B0 : Hp} {H0 : HB} {σ : L2.St} {en : En} (h : EnOk K B0 H0 B H σ en) : ∃ (own : Addr → Prop) (B1 : Hp), (∀ q, own q → B1 q = H q) ∧ (∀ q, ¬ own q → B1 q = B q) ∧ (∀ q, own q → B q = none ∧ Mt H q) ∧ Ex B B1 ∧ Ex B1 H ∧ EnOk K B1 ⟨H, H0.rt⟩ B1 H σ (en.map Sl.thaw) := by
  let own : Addr → Prop := fun q => ∃ (i : Nat) (s : Sl) (o : Option V) (d : D), en[i]? = some s ∧ σ[i]? = some o ∧ s.thaw = .dat d ∧ Ft K B H s o q
  let B1 : Hp := fun q => if own q then H q else B q
  have hB : Ex B B1 := fun q o e => by
    show (if own q then H q else B q) = some o
    by_cases hq : own q
    · rw [if_pos hq]; exact h.bh q o e
    · rw [if_neg hq]; exact e
  have hH : Ex B1 H := fun q o e => by
    have e : (if own q then H q else B q) = some o := e
    by_cases hq : own q
    · rw [if_pos hq] at e; exact e
    · rw [if_neg hq] at e; exact h.bh q o e
  have hO : ∀ q o, own q → H q = some o → B1 q = some o := fun q o hq e => by
    show (if own q then H q else B q) = some o
    rw [if_pos hq]; exact e
  have hN : ∀ q, ¬ own q → B q = none → B1 q = none := fun q hq e => by
    show (if own q then H q else B q) = none
    rw [if_neg hq]; exact e
  refine ⟨own, B1, fun q hq => if_pos hq, fun q hq => if_neg hq, fun q ⟨i, s, o, d, a, b, c, f⟩ => (h.slot i s o a b).free f, hB, hH, ⟨Ext.refl hH, by rw [List.length_map, h.len], fun i s o e1 e2 => ?_, fun i j si sj oi oj q e1 e2 e3 e4 f => ?_, fun i s o q e1 e2 f => ?_, fun i t o e1 e2 => ?_, fun i t o e1 e2 => ?_⟩⟩
  · rw [List.getElem?_map] at e1
    obtain ⟨s', e3, rfl⟩ := omap e1
    exact (h.slot i s' o e3 e2).thaw hB fun d hd q f u hu => hO q u ⟨i, s', o, d, e3, e2, hd, f⟩ hu
  · rw [List.getElem?_map] at e1
    obtain ⟨s', e3, rfl⟩ := omap e1
    exact (thaw_ft f).elim
  · rw [List.getElem?_map] at e1
    obtain ⟨s', e3, rfl⟩ := omap e1
    exact (thaw_ft f).elim
  · rw [List.getElem?_map] at e1
    obtain ⟨s', e3, e4⟩ := omap e1
    exact (thaw_no_par e4).elim
  · rw [List.getElem?_map] at e1
    obtain ⟨s', e3, e4⟩ := omap e1
    rcases thaw_ro e4 with rfl | ⟨z, hd⟩
    · obtain ⟨v, A, e5, w⟩ := h.ro i t o e3 e2
      obtain ⟨k, w'⟩ := h.roH w
      refine ⟨v, A, e5, Ow.mono hB t v A w' fun q hq => ⟨rfl, hN q (fun z => ?_) (k q hq).2⟩⟩
      obtain ⟨j, s, o', d, a1, a2, a3, a4⟩ := z
      have := h.frs j s o' q a1 a2 a4
      exact (Ow.free t v A w q hq).2.1 this
    · have : ∃ v A, o = some v ∧ Ow K B H t v A ∧ (∀ q ∈ A, Ft K B H s' o q) := by
        rcases z with rfl | rfl
        · obtain ⟨v, A, e5, w⟩ := h.slot i _ o e3 e2
          exact ⟨v, A, e5, w, fun q hq => ⟨v, A, e5, w, hq⟩⟩
        · obtain ⟨v, A, e5, w⟩ := h.slot i _ o e3 e2
          exact ⟨v, A, e5, w, fun q hq => ⟨v, A, e5, w, hq⟩⟩
      obtain ⟨v, A, e5, w, ft⟩ := this
      refine ⟨v, A, e5, Ow.mono hB t v A w fun q hq => ⟨rfl, hN q (fun z2 => ?_) (Ow.free t v A w q hq).1⟩⟩
      obtain ⟨j, s, o', d, a1, a2, a3, a4⟩ := z2
      have : j = i := h.apart j i s s' o' o q a1 e3 a2 e2 a4 (ft q hq)
      subst this
      rw [e3] at a1
      cases a1
      rw [e4] at a3
      cases a3
theorem EnOk.thaw {B0 : Hp} {H0 : HB} {σ : L2.St} {en : En} (h : EnOk K B0 H0 B H σ en) : ∃ B1, Ex B1 H ∧ EnOk K B1 ⟨H, H0.rt⟩ B1 H σ (en.map Sl.thaw) := by
  obtain ⟨own, B1, _, _, _, _, a, b⟩ := h.thawX
  exact ⟨B1, a, b⟩
theorem ce_scal (h : CE K te f) : CE K te (dScal f) := fun B0 H0 B H σ en d hE e Q k => by
  obtain ⟨d', e1, e⟩ := obind e
  obtain ⟨hf, rfl⟩ := oite e
  obtain ⟨B1, hB, hE1⟩ := hE.thaw
  refine h B1 ⟨H, H0.rt⟩ B1 H σ _ d' hE1 e1 _ fun v B2 H2 x r => ?_
  have := r.flat hf
  subst this
  exact k _ B H2 ⟨Ex.refl _, hE.bh.trans x.hh, x.hh, fun _ _ => rfl⟩ (.of_flat hf)
theorem DE.scal (h : DE X e te f) : DE X e te (dScal f) := ⟨h.p, ce_scal h.c⟩
@[simp] def tScal (f : En → Option Bool) : En → Option Bool := fun en => f (en.map Sl.thaw)
theorem ct_scal (h : CT K tt ft) : CT K tt (tScal ft) := fun B0 H0 B H σ en b hE e Q k => by
  obtain ⟨B1, hB, hE1⟩ := hE.thaw
  exact h B1 ⟨H, H0.rt⟩ B1 H σ _ b hE1 e _ fun B2 H2 x => k B H2 ⟨Ex.refl _, hE.bh.trans x.hh, x.hh, fun _ _ => rfl⟩
theorem DT.scal (h : DT X e tt ft) : DT X e tt (tScal ft) := ⟨h.p, ct_scal h.c⟩

@[simp] def oNo : En → Option (Option Int) := fun _ => some none
@[simp] def oInt (f : En → Option D) : En → Option (Option Int) := fun en => (f en).bind fun
  | .int i => some (some i)
  | _ => none
theorem do_none : DO X none tNoPart oNo := ⟨po_none, fun B0 H0 B H σ en o hE e Q k => by
  cases e
  exact k B H (Ext.refl hE.bh)⟩
theorem do_some (h : DE X e te f) : DO X (some e) (tPart te) (oInt f) := ⟨po_some h.p, fun B0 H0 B H σ en o hE q Q k => by
  obtain ⟨d, e1, q⟩ := obind q
  split at q
  · cases q
    refine h.c B0 H0 B H σ en _ hE e1 _ fun v B1 H1 x r => ?_
    cases r
    exact ⟨_, rfl, k B1 H1 x⟩
  · cases q⟩
def cutD (ds : List D) (lo hi : Option Int) : List D := (ds.drop (HT.sIx ds.length 0 lo)).take (HT.sIx ds.length ds.length hi - HT.sIx ds.length 0 lo)
theorem RpAll.cut {vs : List V} {ds : List D} (h : RpAll K B vs ds) (lo hi : Option Int) : RpAll K B (cutV vs lo hi) (cutD ds lo hi) := by
  unfold cutV cutD
  rw [h.len]
  exact (h.dp _).tk _
@[simp] def dCutS (fa : En → Option D) (fl fh : En → Option (Option Int)) : En → Option D := fun en => (fa en).bind fun x => (fl en).bind fun l => (fh en).bind fun h => match x with
  | .str z => if z.length ≤ lim then some (.str (cutS z l h)) else none
  | _ => none
variable {lo hi : Option Expr} {tl th : TO} {fl fh : En → Option (Option Int)}
@[simp] def lCutL (fa : En → Option D) (fl fh : En → Option (Option Int)) : En → Option (List D) := fun en => (fa en).bind fun x => (fl en).bind fun l => (fh en).bind fun h => match x with
  | .lst ds => some (cutD ds l h)
  | _ => none
end
end DD

namespace DD
open PySem PySem.Spec PyProof.Rows L2 Evl

structure WalkD (K : PySem.W.Frag) (J : It) (B : Hp) (ds : List D) : Prop where
  go : ∀ (i : Nat) (H : Hp) (d : D), Ex B H → ds[i]? = some d → J.go i H
  yl : ∀ (i : Nat) (B1 H : Hp) (d : D) (x : V) (H' : Hp), Ex B B1 → Ex B1 H → ds[i]? = some d → J.yld i H x H' → ∃ B2, Ext B1 H B2 H' ∧ Rp K B2 x d
  stop : ∀ (i : Nat) (H : Hp), Ex B H → ds.length ≤ i → J.stop i H
def CI (K : PySem.W.Frag) (wi : TI) (f : En → Option (List D)) : Prop := ∀ B0 H0 B H σ en ds, EnOk K B0 H0 B H σ en → f en = some ds → ∀ R : It → Hp → Prop, (∀ J B' H', Ext B H B' H' → WalkD K J B' ds → R J H') → wi σ H R
structure DI (X : Cx) (tg e : Expr) (wi : TI) (f : En → Option (List D)) : Prop where
  p : PI X tg e wi
  c : CI X.K wi f
def CG (K : PySem.W.Frag) (g : TG) (gd : D → En → Option En) (is : List Nat) : Prop := ∀ B0 H0 B H σ en v d en', EnOk K B0 H0 B H σ en → Rp K B v d → gd d en = some en' → ∀ Q : L2.St → Hp → Prop,
  (∀ σ' B' H', Ext B H B' H' → EnOk K B0 H0 B' H' σ' en' → σ'.length = σ.length → (∀ j, j ∉ is → σ'[j]? = σ[j]?) → Q σ' H') → g v σ H Q
structure DG (X : Cx) (tg : Expr) (g : TG) (gd : D → En → Option En) (is : List Nat) : Prop where
  p : PG X tg g
  c : CG X.K g gd is

section
variable {K : PySem.W.Frag} {X : Cx} {pos : Pos} {tg a b c e : Expr} {ta tb tc te : TE} {fa fb fc f : En → Option D} {B H : Hp} {tt tu : TT} {ft fu : En → Option Bool} {es rest : List Expr} {tr : TA} {fr : En → Option (List D)}

theorem walk_l {p : Addr} {vs : List V} {ds : List D} (s : SqL K B p vs) (r : RpAll K B vs ds) : WalkD K (Itl K p) B ds where
  go := fun i H d hE e => by
    obtain ⟨v, h1, _⟩ := r.get i e
    exact ⟨vs, v, ex_l hE s, h1⟩
  yl := fun i B1 H d x H' h1 h2 e y => by
    obtain ⟨rfl, y⟩ := y
    obtain ⟨v, q1, q2⟩ := r.get i e
    have := y vs (ex_l (h1.trans h2) s)
    rw [q1] at this; cases this
    exact ⟨B1, Ext.refl h2, q2.up h1⟩
  stop := fun i H hE hl => ⟨vs, ex_l hE s, by rw [r.len]; exact hl⟩
theorem walk_t {p : Addr} {vs : List V} {ds : List D} (s : SqT K B p vs) (r : RpAll K B vs ds) : WalkD K (Itt K p) B ds where
  go := fun i H d hE e => by
    obtain ⟨v, h1, _⟩ := r.get i e
    exact ⟨vs, v, ex_t hE s, h1⟩
  yl := fun i B1 H d x H' h1 h2 e y => by
    obtain ⟨rfl, y⟩ := y
    obtain ⟨v, q1, q2⟩ := r.get i e
    have := y vs (ex_t (h1.trans h2) s)
    rw [q1] at this; cases this
    exact ⟨B1, Ext.refl h2, q2.up h1⟩
  stop := fun i H hE hl => ⟨vs, ex_t hE s, by rw [r.len]; exact hl⟩
def signs (z : Str) : List D := z.cps.toList.map fun c => .str ⟨#[c]⟩
theorem walk_s {z : Str} : WalkD K (Its z) B (signs z) where
  go := fun i H d hE e => by
    have h : i < (signs z).length := (List.getElem?_eq_some_iff.mp e).1
    unfold signs at h
    rw [List.length_map, Array.length_toList] at h
    exact h
  yl := fun i B1 H d x H' h1 h2 e y => by
    obtain ⟨rfl, c, hc, rfl⟩ := y
    unfold signs at e
    rw [List.getElem?_map, Array.getElem?_toList, hc] at e
    cases e
    exact ⟨B1, Ext.refl h2, .str _⟩
  stop := fun i H hE hl => by
    unfold signs at hl
    rw [List.length_map, Array.length_toList] at hl
    exact hl
def tSeqAny (K : PySem.W.Frag) (ta : TE) : TI := fun σ H R => iList K ta σ H R ∨ (iTup K ta σ H R ∨ iStr ta σ H R)
theorem pi_any {l : Expr} {tl : TE} (hl : PE X l tl) : PI X tg l (tSeqAny X.K tl) := ⟨fun pins s σ H R I h => h.elim ((pi_list hl).run pins s σ H R I) fun h => h.elim ((pi_tup hl).run pins s σ H R I) ((pi_str hl).run pins s σ H R I)⟩
@[simp] def itemsOf : D → Option (List D)
  | .lst ds => some ds
  | .tup ds => some ds
  | .str z => some (signs z)
  | _ => none
@[simp] def iAny (f : En → Option D) : En → Option (List D) := fun en => (f en).bind itemsOf
theorem di_any (h : DE X a ta fa) : DI X tg a (tSeqAny X.K ta) (iAny fa) := ⟨pi_any h.p, fun B0 H0 B H σ en ds hE e R k => by
  obtain ⟨d, e1, e⟩ := obind e
  have run := h.c B0 H0 B H σ en d hE e1
  unfold itemsOf at e
  split at e
  · cases e
    exact .inl (run _ fun v B1 H1 x r => by
      cases r with
      | lst s q => exact ⟨_, rfl, ⟨_, ex_l x.bh s⟩, k _ B1 H1 x (walk_l s q)⟩)
  · cases e
    exact .inr (.inl (run _ fun v B1 H1 x r => by
      cases r with
      | tup s_ q => have s := SqT.of (K := X.K) s_; exact ⟨_, rfl, ⟨_, ex_t x.bh s⟩, k _ B1 H1 x (walk_t s q)⟩))
  · cases e
    exact .inr (.inr (run _ fun v B1 H1 x r => by
      cases r
      exact ⟨_, rfl, k _ B1 H1 x walk_s⟩))
  · cases e⟩
def rngD (lo : Int) (c : Int) (n : Nat) : List D := (List.range n).map fun (i : Nat) => .int (lo + (i : Int) * c)
theorem rngD_get {lo c : Int} {n i : Nat} {d : D} (h : (rngD lo c n)[i]? = some d) : i < n ∧ d = .int (lo + (i : Int) * c) := by
  unfold rngD at h
  rw [List.getElem?_map] at h
  obtain ⟨j, h1, rfl⟩ := omap h
  obtain ⟨h2, h3⟩ := List.getElem?_eq_some_iff.mp h1
  rw [List.getElem_range] at h3
  subst h3
  rw [List.length_range] at h2
  exact ⟨h2, rfl⟩
theorem rngD_len {lo c : Int} {n : Nat} : (rngD lo c n).length = n := by unfold rngD; rw [List.length_map, List.length_range]
theorem walk_r {lo : Int} {n : Nat} : WalkD K (Itr lo n) B (rngD lo 1 n) where
  go := fun i H d hE e => (rngD_get e).1
  yl := fun i B1 H d x H' h1 h2 e y => by
    obtain ⟨rfl, rfl⟩ := y
    obtain ⟨_, rfl⟩ := rngD_get e
    rw [Int.mul_one]
    exact ⟨B1, Ext.refl h2, .int _⟩
  stop := fun i H hE hl => by rw [rngD_len] at hl; exact hl
@[simp] def iR1 (g : En → Option (List D)) : En → Option (List D) := fun en => (g en).bind fun
  | [.int j] => if j.natAbs ≤ 100000 then some (rngD 0 1 j.toNat) else none
  | _ => none
@[simp] def iR2 (g : En → Option (List D)) : En → Option (List D) := fun en => (g en).bind fun
  | [.int i, .int j] => if i.natAbs ≤ 100000 ∧ j.natAbs ≤ 100000 then some (rngD i 1 (j - i).toNat) else none
  | _ => none
@[simp] def iR3 (g : En → Option (List D)) : En → Option (List D) := fun en => (g en).bind fun
  | [.int i, .int j, .int c] => if c = -1 ∧ i.natAbs ≤ 100000 ∧ j.natAbs ≤ 100000 then some (rngD i (-1) (i - j).toNat) else none
  | _ => none
theorem di_r1 {p : Pos} (hg : Gl X "range") (hm : X.mg "range" = none) (h : DA X [a] tr fr) (hs : starEach [a] X.env = [(false, eval a X.env)] := by rfl) : DI X tg (.Call (.Name "range" p) [a] [] pos) (iRng1 tr) (iR1 fr) := ⟨pi_range1 hg hm h.p hs, fun B0 H0 B H σ en ds hE e R k => by
  obtain ⟨d, e1, e⟩ := obind e
  refine h.c B0 H0 B H σ en d hE e1 _ fun vs B1 H1 x r => ?_
  split at e
  · obtain ⟨h1, rfl⟩ := oite e
    obtain ⟨v, rfl, q⟩ := r.one
    cases q
    exact ⟨_, rfl, by omega, by omega, k _ B1 H1 x walk_r⟩
  · cases e⟩
theorem di_r2 {p : Pos} (hg : Gl X "range") (hm : X.mg "range" = none) (h : DA X [a, b] tr fr) (hs : starEach [a, b] X.env = [(false, eval a X.env), (false, eval b X.env)] := by rfl) (hs2 : starEach [b] X.env = [(false, eval b X.env)] := by rfl) :
    DI X tg (.Call (.Name "range" p) [a, b] [] pos) (iRng2 tr) (iR2 fr) := ⟨pi_range2 hg hm h.p hs hs2, fun B0 H0 B H σ en ds hE e R k => by
  obtain ⟨d, e1, e⟩ := obind e
  refine h.c B0 H0 B H σ en d hE e1 _ fun vs B1 H1 x r => ?_
  split at e
  · obtain ⟨⟨h1, h3⟩, rfl⟩ := oite e
    obtain ⟨v, v', rfl, r, r'⟩ := r.two
    cases r
    cases r'
    exact ⟨_, _, rfl, by omega, k _ B1 H1 x walk_r⟩
  · cases e⟩
@[simp] def gSet (i : Nat) : D → En → Option En := fun d en => some (en.set i (.dat d))
theorem cg_name (i : Nat) : CG K (gName i) (gSet i) [i] := fun B0 H0 B H σ en v d en' hE r e Q k => by
  cases e
  exact k _ B H (Ext.refl hE.bh) (hE.set i r) (List.length_set) fun j hj => List.getElem?_set_ne (fun z => hj (by rw [z]; exact List.mem_singleton.mpr rfl))
theorem dg_name {i : Nat} {x : Str} (h : PG X (.Name x pos) (gName i)) : DG X (.Name x pos) (gName i) (gSet i) [i] := ⟨h, cg_name i⟩
def CGs (K : PySem.W.Frag) (g : TGs) (gd : List D → En → Option En) (is : List Nat) : Prop := ∀ B0 H0 B H σ en vs ds en', EnOk K B0 H0 B H σ en → RpAll K B vs ds → gd ds en = some en' → ∀ Q : L2.St → Hp → Prop,
  (∀ σ' B' H', Ext B H B' H' → EnOk K B0 H0 B' H' σ' en' → σ'.length = σ.length → (∀ j, j ∉ is → σ'[j]? = σ[j]?) → Q σ' H') → g vs σ H Q
structure DGs (X : Cx) (ts : List Expr) (g : TGs) (gd : List D → En → Option En) (is : List Nat) : Prop where
  p : PGs X ts g
  c : CGs X.K g gd is
@[simp] def gsNil : List D → En → Option En := fun ds en => match ds with
  | [] => some en
  | _ => none
@[simp] def gsCons (g : D → En → Option En) (gs : List D → En → Option En) : List D → En → Option En := fun ds en => match ds with
  | d :: r => (g d en).bind (gs r)
  | _ => none
theorem dgs_nil : DGs X [] gNil gsNil [] := ⟨pgs_nil, fun B0 H0 B H σ en vs ds en' hE r e Q k => by
  unfold gsNil at e
  split at e
  · cases e
    cases r
    exact ⟨rfl, k _ B H (Ext.refl hE.bh) hE rfl fun _ _ => rfl⟩
  · cases e⟩
theorem dgs_cons {ts : List Expr} {g : TG} {gs : TGs} {gd : D → En → Option En} {gds : List D → En → Option En} {is js : List Nat} (h : DG X tg g gd is) (h' : DGs X ts gs gds js)
    (hs : (assignEach (tg :: ts) X.env).map (·.2) = assign tg X.env :: (assignEach ts X.env).map (·.2) := by rfl) : DGs X (tg :: ts) (gCons g gs) (gsCons gd gds) (is ++ js) := ⟨pgs_cons h.p h'.p hs, fun B0 H0 B H σ en vs ds en' hE r e Q k => by
  unfold gsCons at e
  split at e
  · obtain ⟨en1, e1, e⟩ := obind e
    cases r with
    | cons r rr =>
      refine ⟨_, _, rfl, h.c B0 H0 B H σ en _ _ en1 hE r e1 _ fun σ1 B1 H1 x1 hE1 l1 k1 => ?_⟩
      refine h'.c B0 H0 B1 H1 σ1 en1 _ _ en' hE1 (rr.up x1.bb) e _ fun σ2 B2 H2 x2 hE2 l2 k2 => ?_
      exact k σ2 B2 H2 (x1.trans x2) hE2 (l2.trans l1) fun j hj => (k2 j fun z => hj (List.mem_append_right _ z)).trans (k1 j fun z => hj (List.mem_append_left _ z))
  · cases e⟩
@[simp] def gTupD (gs : List D → En → Option En) (n : Nat) : D → En → Option En := fun d en => match d with
  | .tup ds => if ds.length = n then gs ds en else none
  | _ => none
theorem dg_tup {ts : List Expr} {k : Nat} {g : TGs} {gds : List D → En → Option En} {is : List Nat} {n : Nat} (hK : X.K = K) (hc : X.calm = true) (h : DGs X ts g gds is)
    (hn : (assignEach ts X.env).length = n := by rfl) (hst : (assignEach ts X.env).findIdx? (·.1) = none := by rfl) : DG X (.Tuple ts k pos) (gTup K n g) (gTupD gds n) is := hK ▸ ⟨pg_tup hc h.p hn hst, fun B0 H0 B H σ en v d en' hE r e Q kq => by
  unfold gTupD at e
  split at e
  · split at e
    · rename_i hl
      cases r with
      | tup s_ q => have s := SqT.of (K := X.K) s_; exact ⟨_, _, rfl, ex_t hE.bh s, by rw [q.len]; exact hl, h.c B0 H0 B H σ en _ _ en' hE q e Q kq⟩
    · cases e
  · cases e⟩

@[simp] def wipeE (en : En) : List Nat → En
  | [] => en
  | v :: vs => (wipeE en vs).set v .no
theorem EnOk.forget {B0 : Hp} {H0 : HB} {σ : L2.St} {en : En} (h : EnOk K B0 H0 B H σ en) (i : Nat) : EnOk K B0 H0 B H (σ.set i none) (en.set i .no) :=
  h.put i trivial (fun _ f => f.elim) fun _ _ _ _ _ _ _ f _ => f.elim
theorem EnOk.wipe {B0 : Hp} {H0 : HB} {σ : L2.St} {en : En} (h : EnOk K B0 H0 B H σ en) : ∀ vs : List Nat, EnOk K B0 H0 B H (L2.wipe σ vs) (wipeE en vs)
  | [] => h
  | v :: vs => (EnOk.wipe h vs).forget v
theorem wipe_get {σ : L2.St} {j : Nat} : ∀ {vs : List Nat}, (L2.wipe σ vs)[j]? = if j ∈ vs ∧ j < σ.length then some none else σ[j]?
  | [] => by
    show σ[j]? = _
    rw [if_neg (fun z => nomatch z.1)]
  | v :: vs => by
    have ih := wipe_get (σ := σ) (j := j) (vs := vs)
    show ((L2.wipe σ vs).set v none)[j]? = _
    by_cases hv : v = j
    · subst hv
      by_cases hl : v < σ.length
      · rw [List.getElem?_set_self (by rw [wipe_length]; exact hl), if_pos ⟨List.mem_cons_self, hl⟩]
      · rw [List.getElem?_eq_none (by rw [List.length_set, wipe_length]; omega), if_neg (fun z => hl z.2), List.getElem?_eq_none (by omega)]
    · rw [List.getElem?_set_ne hv, ih]
      have : (j ∈ v :: vs ∧ j < σ.length) ↔ (j ∈ vs ∧ j < σ.length) := by
        rw [List.mem_cons]
        exact ⟨fun z => ⟨z.1.resolve_left (Ne.symm hv), z.2⟩, fun z => ⟨.inr z.1, z.2⟩⟩
      simp only [this]
theorem wipe_same {σ σ2 : L2.St} {vs is : List Nat} (hl : σ2.length = (L2.wipe σ vs).length) (hk : ∀ j, j ∉ is → σ2[j]? = (L2.wipe σ vs)[j]?) (hs : ∀ j ∈ is, j ∈ vs) : L2.wipe σ2 vs = L2.wipe σ vs := by
  refine List.ext_getElem? fun j => ?_
  rw [wipe_get, hl, wipe_length]
  by_cases hj : j ∈ vs
  · rw [wipe_get]
    by_cases hb : j < σ.length
    · rw [if_pos ⟨hj, hb⟩, if_pos ⟨hj, hb⟩]
    · rw [if_neg (fun z => hb z.2), if_neg (fun z => hb z.2), List.getElem?_eq_none (by rw [hl, wipe_length]; omega), List.getElem?_eq_none (by omega)]
  · rw [if_neg (fun z => hj z.1)]
    exact hk j fun z => hj (hs j z)
def lcGo (gd : D → En → Option En) (ft : En → Option Bool) (fe : En → Option D) (en : En) : List D → Option (List D)
  | [] => some []
  | d :: r => (gd d en).bind fun en1 => (ft en1).bind fun b => if b = true then (fe en1).bind fun y => (lcGo gd ft fe en r).map fun ys => y :: ys else lcGo gd ft fe en r
@[simp] def lLc (fi : En → Option (List D)) (gd : D → En → Option En) (ft : En → Option Bool) (fe : En → Option D) (vs : List Nat) : En → Option (List D) := fun en => (fi en).bind fun ds => if ds.length ≤ lim then lcGo gd ft fe (wipeE en vs) ds else none
theorem cl_lc {wi : TI} {g : TG} {fi : En → Option (List D)} {gd : D → En → Option En} {is vs : List Nat} (hi : CI K wi fi) (hg : CG K g gd is) (ht : CT K tt ft) (he : CE K te f) (hs : ∀ j ∈ is, j ∈ vs) : CL K (tLc wi g tt te vs) (lLc fi gd ft f vs) := fun B0 H0 B H σ en out hE e Q k => by
  obtain ⟨ds, e1, e⟩ := obind e
  have hlim : ds.length ≤ lim := by
    by_cases h : ds.length ≤ lim
    · exact h
    · rw [if_neg h] at e; cases e
  rw [if_pos hlim] at e
  refine hi B0 H0 B H σ en ds hE e1 _ fun J B1 H1 x1 W => ?_
  intro Dl hD
  have hE1 := hE.up x1
  refine ⟨fun i m H' => m = ds.length - i ∧ i ≤ ds.length ∧ ∃ B' vs' acc rest, Ext B1 H1 B' H' ∧ B' Dl = none ∧ H' Dl = some (.lst vs') ∧ RpAll K B' vs' acc ∧ lcGo gd ft f (wipeE en vs) (ds.drop i) = some rest ∧ acc ++ rest = out ∧ acc.length ≤ i,
    ⟨ds.length, by simp, Nat.zero_le _, B1, [], [], out, Ext.newM x1.bh hD, fresh_back x1.bh hD, upd_same, .nil, e, rfl, Nat.le_refl _⟩, ?_⟩
  rintro i m H' ⟨rfl, hi', B', vs', acc, rest, x2, hb, hp, r, hgo, hout, hacc⟩
  by_cases hlt : i < ds.length
  · have hd : ds[i]? = some ds[i] := List.getElem?_eq_getElem hlt
    rw [List.drop_eq_getElem_cons hlt] at hgo
    obtain ⟨en1, g1, hgo⟩ := obind hgo
    obtain ⟨b, g2, hgo⟩ := obind hgo
    refine .inr ⟨W.go i H' _ (x2.bb.trans x2.bh) hd, fun H'' => ∃ B'' vs'' acc'' rest'', Ext B1 H1 B'' H'' ∧ B'' Dl = none ∧ H'' Dl = some (.lst vs'') ∧ RpAll K B'' vs'' acc'' ∧ lcGo gd ft f (wipeE en vs) (ds.drop (i + 1)) = some rest'' ∧ acc'' ++ rest'' = out ∧ acc''.length ≤ i + 1, fun H'' q => ⟨ds.length - (i + 1), by omega, rfl, hlt, q⟩, fun v H2 y => ?_⟩
    obtain ⟨B2, x3, r2⟩ := W.yl i B' H' _ v H2 x2.bb x2.bh hd y
    have hE2 := (hE1.up (x2.trans x3)).wipe vs
    refine hg B0 H0 B2 H2 _ _ v _ en1 hE2 r2 g1 _ fun σ2 B3 H3 x4 hE3 l3 k3 => ⟨wipe_same l3 k3 hs, ?_⟩
    refine ht B0 H0 B3 H3 σ2 en1 b hE3 g2 _ fun B4 H4 x5 => ?_
    have x6 := (x3.trans x4).trans x5
    have keep : B4 Dl = none := (x6.st Dl (ne_some hp)).trans hb
    cases b with
    | true =>
      rw [if_pos rfl] at hgo ⊢
      obtain ⟨y', g3, hgo⟩ := obind hgo
      obtain ⟨ys, g4, rfl⟩ := omap hgo
      refine he B0 H0 B4 H4 σ2 en1 y' (hE3.up x5) g3 _ fun u B5 H5 x7 r5 => ?_
      have hp5 := x7.hh _ _ (x6.hh _ _ hp)
      have hb5 : B5 Dl = none := (x7.st Dl (ne_some (x6.hh _ _ hp))).trans keep
      have x8 := x2.trans (x6.trans x7)
      have hz : vs'.length ≤ lim := by rw [r.len]; omega
      refine ⟨vs', hp5, lim_lt hz, B5, vs' ++ [u], acc ++ [y'], ys, ⟨x8.bb, Ex.mut x8.bh hb5, fun a o q => ?_, x8.st⟩, hb5, upd_same, (r.up (x6.bb.trans x7.bb)).app (.cons r5 .nil), g4, by rw [List.append_assoc]; exact hout, by rw [List.length_append]; exact Nat.succ_le_succ hacc⟩
      rw [upd_ne (ne_of_none q hD)]
      exact x8.hh a o q
    | false =>
      rw [if_neg Bool.false_ne_true] at hgo ⊢
      exact ⟨B4, vs', acc, rest, x2.trans x6, keep, x6.hh _ _ hp, r.up x6.bb, hgo, hout, Nat.le_succ_of_le hacc⟩
  · have hi2 : i = ds.length := by omega
    subst hi2
    refine .inl ⟨W.stop _ H' (x2.bb.trans x2.bh) (Nat.le_refl _), ?_⟩
    rw [List.drop_length] at hgo
    cases hgo
    rw [List.append_nil] at hout
    subst hout
    exact k Dl vs' B' H' (x1.trans x2) (fresh_back x1.hh hD) hb hp r
@[simp] def fYes : En → Option Bool := fun _ => some true
theorem ct_yes : CT K tYes fYes := fun B0 H0 B H σ en b hE e Q k => by
  cases e
  exact k B H (Ext.refl hE.bh)
structure DTs (X : Cx) (ifs : List Expr) (t : TT) (f : En → Option Bool) : Prop where
  p : PTs X ifs t
  c : CT X.K t f
theorem dts_nil : DTs X [] tYes fYes := ⟨pts_nil, ct_yes⟩
theorem dts_one (h : DT X c tt ft) : DTs X [c] tt ft := ⟨pts_one h.p, h.c⟩
theorem dl_lc {elt iter : Expr} {ifs : List Expr} {scope : Scope} {own : List (Str × Nat)} {wi : TI} {g : TG} {fi : En → Option (List D)} {gd : D → En → Option En} {is : List Nat} (hc : X.calm = true) (hN : X.N.Nodup) (hi : DI X tg iter wi fi) (ok : BlkOk X.N X.env.scope scope own)
    (hg : ∀ (s : Shared) (H : Hp) (C : Addr) (cl : List (Str × Addr)) (fp : List Addr), DG (X.blk s H scope (compEnvC scope cl C X.env) fp) tg g gd is) (ht : ∀ (s : Shared) (H : Hp) (C : Addr) (cl : List (Str × Addr)) (fp : List Addr), DTs (X.blk s H scope (compEnvC scope cl C X.env) fp) ifs tt ft)
    (he : ∀ (s : Shared) (H : Hp) (C : Addr) (cl : List (Str × Addr)) (fp : List Addr), DE (X.blk s H scope (compEnvC scope cl C X.env) fp) elt te f) (hsub : ∀ j ∈ is, j ∈ own.map (·.2) := by decide) (hs : ∀ x, foldedSetIterable iter X.env x = pure x := by intro _; rfl) :
    DL X (.ListComp elt [⟨tg, iter, ifs, 0⟩] scope pos) (tLc wi g tt te (own.map (·.2))) (lLc fi gd ft f (own.map (·.2))) :=
  ⟨pe_lc hc hN hi.p ok (fun s H C cl fp => (hg s H C cl fp).p) (fun s H C cl fp => (ht s H C cl fp).p) (fun s H C cl fp => (he s H C cl fp).p) hs,
    cl_lc (K := X.K) hi.c (hg {} (fun _ => none) 0 [] []).c (ht {} (fun _ => none) 0 [] []).c (he {} (fun _ => none) 0 [] []).c hsub⟩
end
end DD

namespace DD
open PySem PySem.Spec PyProof.Rows L2 Evl

inductive Out where
  | nx (en : En) | rt (d : D) | bk (en : En) | ct (en : En) | rm (t : Tr) (en : En)
def OutOk (K : PySem.W.Frag) (B0 : Hp) (H0 : HB) (B : Hp) (Dn : Ends) : Out → Prop
  | .nx en' => ∀ σ' B' H', Ex B B' → EnOk K B0 H0 B' H' σ' en' → Dn.nx σ' H'
  | .bk en' => ∀ σ' B' H', Ex B B' → EnOk K B0 H0 B' H' σ' en' → Dn.bk σ' H'
  | .ct en' => ∀ σ' B' H', Ex B B' → EnOk K B0 H0 B' H' σ' en' → Dn.ct σ' H'
  | .rt d => ∀ v B' H', Ext B0 H0 B' H' → Rp K B' v d → Dn.rt v H'
  | .rm t en' => ∀ v A σ' B' H', Ex B B' → EnOk K B0 H0 B' H' σ' en' → Ow K B' H' t v A → (∀ q ∈ A, H0 q = none ∧ ∀ (i : Nat) (s : Sl) (o : Option V), en'[i]? = some s → σ'[i]? = some o → ¬ Ft K B' H' s o q) → Dn.rt v H'
def CS (K : PySem.W.Frag) (ts : TS) (g : En → Option Out) : Prop := ∀ B0 H0 B H σ en o, EnOk K B0 H0 B H σ en → g en = some o → ∀ Dn : Ends, OutOk K B0 H0 B Dn o → ts Dn σ H
structure DS (X : Cx) (st : Stmt) (ts : TS) (g : En → Option Out) : Prop where
  p : PS X st ts
  c : CS X.K ts g
structure DSs (X : Cx) (st : List Stmt) (ts : TS) (g : En → Option Out) : Prop where
  p : PSs X st ts
  c : CS X.K ts g

section
variable {K : PySem.W.Frag} {X : Cx} {pos : Pos} {tg a b c e : Expr} {ta tb tc te : TE} {fa fb fc f : En → Option D} {B B1 H B0 : Hp} {H0 : HB} {tt tu : TT} {ft fu : En → Option Bool} {es rest : List Expr} {tr : TA} {fr : En → Option (List D)}
  {st : Stmt} {sts : List Stmt} {t u : TS} {g h : En → Option Out} {Dn Dn' : Ends} {o : Out}
theorem OutOk.up (h : OutOk K B0 H0 B Dn o) (x : Ex B B1) : OutOk K B0 H0 B1 Dn o := by
  cases o with
  | nx en => exact fun σ' B' H' e => h σ' B' H' (x.trans e)
  | bk en => exact fun σ' B' H' e => h σ' B' H' (x.trans e)
  | ct en => exact fun σ' B' H' e => h σ' B' H' (x.trans e)
  | rt d => exact h
  | rm t en => exact fun v A σ' B' H' e => h v A σ' B' H' (x.trans e)
@[simp] def sNil : En → Option Out := fun en => some (.nx en)
def sSeq (g h : En → Option Out) : En → Option Out := fun en => (g en).bind fun
  | .nx en' => h en'
  | o => some o
theorem cs_seq (h1 : CS K t g) (h2 : CS K u h) : CS K (tSeq t u) (sSeq g h) := fun B0 H0 B H σ en o hE e Dn k => by
  obtain ⟨o1, e1, e⟩ := obind e
  refine h1 B0 H0 B H σ en o1 hE e1 _ ?_
  cases o1 with
  | nx en1 => exact fun σ1 B1 H1 x1 hE1 => h2 B0 H0 B1 H1 σ1 en1 o hE1 e Dn (k.up x1)
  | bk en1 => cases e; exact k
  | ct en1 => cases e; exact k
  | rt d => cases e; exact k
  | rm t en1 => cases e; exact k
theorem dss_nil : DSs X [] tNext sNil := ⟨pss_nil, fun B0 H0 B H σ en o hE e Dn k => by
  cases e
  exact k σ B H (Ex.refl _) hE⟩
theorem dss_cons (h1 : DS X st t g) (h2 : DSs X sts u h) : DSs X (st :: sts) (tSeq t u) (sSeq g h) := ⟨pss_cons h1.p h2.p, cs_seq h1.c h2.c⟩
theorem dss_one (h1 : DS X st t g) : DSs X [st] t g := ⟨pss_one h1.p, h1.c⟩
@[simp] def sSet (i : Nat) (f : En → Option D) : En → Option Out := fun en => (f en).map fun d => .nx (en.set i (.dat d))
theorem ds_set {i : Nat} (he : DE X e te f) (hp : PS X st (tAsg te (gName i))) : DS X st (tAsg te (gName i)) (sSet i f) := ⟨hp, fun B0 H0 B H σ en o hE q Dn k => by
  obtain ⟨d, e1, rfl⟩ := omap q
  exact he.c B0 H0 B H σ en d hE e1 _ fun v B1 H1 x r => k _ B1 H1 x.bb ((hE.up x).set i r)⟩
@[simp] def sOwn (i : Nat) (f : En → Option (List D)) : En → Option Out := fun en => (f en).map fun ds => .nx (en.set i (.own ds))
theorem ds_own {i : Nat} {fl : En → Option (List D)} (he : DL X e te fl) (hp : PS X st (tAsg te (gName i))) : DS X st (tAsg te (gName i)) (sOwn i fl) := ⟨hp, fun B0 H0 B H σ en o hE q Dn k => by
  obtain ⟨d, e1, rfl⟩ := omap q
  refine he.c B0 H0 B H σ en d hE e1 _ fun p vs B1 H1 x h0 hb hp r => ?_
  exact k _ B1 H1 x.bb ((hE.up x).setM i ⟨p, vs, rfl, hb, hp, r⟩ (fresh_back hE.ext.hh h0) fun j sj oj => hE.nref h0 x j sj oj)⟩
@[simp] def sOwd (i : Nat) : En → Option Out := fun en => some (.nx (en.set i (.owd [] [])))
theorem ds_owd {i : Nat} (hp : PS X st (tAsg tDNewK (gName i))) : DS X st (tAsg tDNewK (gName i)) (sOwd i) := ⟨hp, fun B0 H0 B H σ en o hE q Dn k => by
  cases q
  intro p hn
  have x := Ext.newM (o := .dK []) hE.bh hn
  exact k _ B _ (Ex.refl _) ((hE.up x).setM i ⟨p, [], rfl, fresh_back hE.bh hn, upd_same, rfl, .nil⟩ (fresh_back hE.ext.hh hn) fun j sj oj => hE.nref hn x j sj oj)⟩
@[simp] def sDrop (f : En → Option D) : En → Option Out := fun en => (f en).map fun _ => .nx en
theorem ds_drop {pos' : Pos} (he : DE X e te f) (hs : swapsWith e none pos'.line X.env = pure false := by rfl) : DS X (.Expr e pos') (tDrop te) (sDrop f) := ⟨ps_expr he.p hs, fun B0 H0 B H σ en o hE q Dn k => by
  obtain ⟨d, e1, rfl⟩ := omap q
  exact he.c B0 H0 B H σ en d hE e1 _ fun v B1 H1 x r => k _ B1 H1 x.bb (hE.up x)⟩
@[simp] def sRet (f : En → Option D) : En → Option Out := fun en => (f en).map .rt
theorem ds_ret (he : DE X e te f) : DS X (.Return (some e) pos) (tRet te) (sRet f) := ⟨ps_ret he.p, fun B0 H0 B H σ en o hE q Dn k => by
  obtain ⟨d, e1, rfl⟩ := omap q
  exact he.c B0 H0 B H σ en d hE e1 _ fun v B1 H1 x r => k v B1 H1 (hE.ext.trans x) r⟩
@[simp] def sRetN : En → Option Out := fun _ => some (.rt .non)
@[simp] def sBk : En → Option Out := fun en => some (.bk en)
@[simp] def sCt : En → Option Out := fun en => some (.ct en)
@[simp] def sNo : En → Option Out := fun _ => none
theorem ds_never : DS X st tNever sNo := ⟨ps_never, fun B0 H0 B H σ en o hE e => by cases e⟩
def sIf (ft : En → Option Bool) (g h : En → Option Out) : En → Option Out := fun en => (ft en).bind fun b => if b = true then g en else h en
theorem ds_if {sa sb : List Stmt} (hc : DT X c tt ft) (ha : DSs X sa t g) (hb : DSs X sb u h) : DS X (.If c sa sb pos) (tIfS tt t u) (sIf ft g h) := ⟨ps_if hc.p ha.p hb.p, fun B0 H0 B H σ en o hE e Dn k => by
  obtain ⟨b, e1, e⟩ := obind e
  refine hc.c B0 H0 B H σ en b hE e1 _ fun B1 H1 x => ?_
  cases b with
  | true => rw [if_pos rfl] at e ⊢; exact ha.c B0 H0 B1 H1 σ en o (hE.up x) e Dn (k.up x.bb)
  | false => rw [if_neg Bool.false_ne_true] at e ⊢; exact hb.c B0 H0 B1 H1 σ en o (hE.up x) e Dn (k.up x.bb)⟩
@[simp] def frz (i : Nat) (en : En) : En := match en[i]? with
  | some s => match s.thaw with
    | .dat d => en.set i (.dat d)
    | _ => en
  | none => en
open Classical in
theorem EnOk.frz {σ : L2.St} {en : En} (hE : EnOk K B0 H0 B H σ en) (i : Nat) : ∃ B', Ex B B' ∧ EnOk K B0 H0 B' H σ (frz i en) := by
  unfold DD.frz
  split
  · rename_i s hs
    split
    · rename_i d hd
      obtain ⟨o, ho⟩ := hE.lt hs
      let B' : Hp := fun q => if Ft K B H s o q then H q else B q
      have hB : Ex B B' := fun q u e => by
        show (if Ft K B H s o q then H q else B q) = some u
        by_cases hq : Ft K B H s o q
        · rw [if_pos hq]; exact hE.bh q u e
        · rw [if_neg hq]; exact e
      have hH : Ex B' H := fun q u e => by
        have e : (if Ft K B H s o q then H q else B q) = some u := e
        by_cases hq : Ft K B H s o q
        · rw [if_pos hq] at e; exact e
        · rw [if_neg hq] at e; exact hE.bh q u e
      have hO : ∀ q, Ft K B H s o q → B' q = H q := fun q hq => if_pos hq
      have hN : ∀ q, ¬ Ft K B H s o q → B' q = B q := fun q hq => if_neg hq
      have sl := hE.slot i s o hs ho
      have other : ∀ (j : Nat) (sj : Sl) (oj : Option V), j ≠ i → en[j]? = some sj → σ[j]? = some oj → SlOk K B' H sj oj ∧ ∀ q, Ft K B' H sj oj q ↔ Ft K B H sj oj q := fun j sj oj ne a b => by
        have k := hE.slot j sj oj a b
        refine k.mono hB fun q f => ⟨rfl, ?_⟩
        rw [hN q fun g => ne (hE.apart j i sj s oj o q a hs b ho f g)]
        exact (k.free f).1
      refine ⟨B', hB, ⟨⟨hE.ext.bb.trans hB, hH, hE.ext.hh, fun q hq => ?_⟩, by rw [List.length_set, hE.len], fun j sj oj a b => ?_, fun j k sj sk oj ok q a b c e f g => ?_, fun j sj oj q a b f => ?_, fun j t oj a b => ?_, fun j t oj a b => ?_⟩⟩
      · rw [hN q fun f => hq.1 (hE.frs i s o q hs ho f)]; exact hE.ext.st q hq
      · rcases get_set a with ⟨rfl, rfl, hl⟩ | ⟨ne, a'⟩
        · rw [ho] at b
          cases b
          rw [← hd]
          exact sl.thaw hB fun d' _ q f u hu => by rw [hO q f]; exact hu
        · exact (other j sj oj ne a' b).1
      · rcases get_set a with ⟨rfl, rfl, _⟩ | ⟨n1, a'⟩
        · exact f.elim
        · rcases get_set b with ⟨rfl, rfl, _⟩ | ⟨n2, b'⟩
          · exact g.elim
          · exact hE.apart j k sj sk oj ok q a' b' c e (((other j sj oj n1 a' c).2 q).mp f) (((other k sk ok n2 b' e).2 q).mp g)
      · rcases get_set a with ⟨rfl, rfl, _⟩ | ⟨n1, a'⟩
        · exact f.elim
        · exact hE.frs j sj oj q a' b (((other j sj oj n1 a' b).2 q).mp f)
      · rcases get_set a with ⟨_, z, _⟩ | ⟨n1, a'⟩
        · cases z
        · exact hE.root j t oj a' b
      · rcases get_set a with ⟨_, z, _⟩ | ⟨n1, a'⟩
        · cases z
        · exact hE.ro j t oj a' b
    · exact ⟨B, Ex.refl _, hE⟩
  · exact ⟨B, Ex.refl _, hE⟩
theorem cs_frz (i : Nat) (h1 : CS K t g) : CS K t (fun en => g (frz i en)) := fun B0 H0 B H σ en o hE e Dn k => by
  obtain ⟨B', hx, hE'⟩ := hE.frz i
  exact h1 B0 H0 B' H σ _ o hE' e Dn (k.up hx)
theorem DS.frz (i : Nat) (h1 : DS X st t g) : DS X st t (fun en => g (DD.frz i en)) := ⟨h1.p, cs_frz i h1.c⟩
theorem DSs.frz (i : Nat) (h1 : DSs X sts t g) : DSs X sts t (fun en => g (DD.frz i en)) := ⟨h1.p, cs_frz i h1.c⟩
@[simp] def sApp (i : Nat) (f : En → Option D) : En → Option Out := fun en => (f en).bind fun d => match en[i]? with
  | some (.own ds) => if ds.length ≤ lim then some (.nx (en.set i (.own (ds ++ [d])))) else none
  | _ => none
theorem ds_app {i : Nat} {x : Expr} {apos cpos pos' : Pos} (hx : PE X x (tVar i)) (he : DE X e te f)
    (hbase : attributeBase x "append" X.env (eval x X.env) = eval x X.env := by rfl)
    (hfew : ((backTo cpos (starEach (e :: []) X.env)).all (fun x => !x.1) && (backToKw cpos (keywordEach [] X.env)).all (fun x => x.1.isSome)
      && decide ((e :: []).length + ([] : List Keyword).length + (if ([] : List Keyword).isEmpty then 0 else 1) < 30)) = true := by rfl)
    (hline : (apos.endLine == cpos.line) = true := by rfl) (hs : starEach (e :: []) X.env = (false, eval e X.env) :: starEach [] X.env := by rfl) (hplain : (backTo cpos (starEach [] X.env)).any (·.1) = false := by rfl)
    (hsw : swapsWith (.Call (.Attribute x "append" apos) [e] [] cpos) none pos'.line X.env = pure false := by rfl) :
    DS X (.Expr (.Call (.Attribute x "append" apos) [e] [] cpos) pos') (tDrop (tBM X.K "list" rAppend (tVar i) (tCons te tNil))) (sApp i f) :=
  ⟨ps_expr (pe_bm PySem.F.plainAttrs_list PySem.F.slot_list_append PySem.F.type_list_append mt_append hx (pa_cons he.p pa_nil hs) hbase hfew hline hs hplain) hsw, fun B0 H0 B H σ en o hE q Dn k => by
    obtain ⟨d, e1, q⟩ := obind q
    split at q
    · rename_i ds hi
      obtain ⟨hl, rfl⟩ := oite q
      obtain ⟨p, vs, hp, hb, hh, r, f0⟩ := hE.own hi
      refine ⟨.ref p, hp, .inl ⟨rfl, _, SqL.of hh⟩, ?_⟩
      refine he.c B0 H0 B H σ en d hE e1 _ fun v B1 H1 x1 r1 => ?_
      have hh1 := x1.hh _ _ hh
      have hb1 : B1 p = none := (x1.st p (ne_some hh)).trans hb
      refine ⟨p, vs, v, rfl, rfl, hh1, lim_lt (by rw [r.len]; exact hl), ?_⟩
      refine k _ B1 _ x1.bb ((hE.up x1).chg hi rfl rfl hp hb1 ⟨p, _, rfl, hb1, upd_same, (r.up x1.bb).app (.cons r1 .nil)⟩)
    · cases q⟩
@[simp] def sSetI (i : Nat) (fj f : En → Option D) : En → Option Out := fun en => (f en).bind fun d => (fj en).bind fun j => match j, en[i]? with
  | .int z, some (.own ds) => (ixN ds.length z).map fun m => .nx (en.set i (.own (ds.set m d)))
  | _, _ => none
theorem RpAll.put {k : Key} {v : V} {d : D} (r : Rp K B v d) : ∀ {kvs : List (Key × V)} {ds : List D}, (kvs.map (·.1)).Nodup → RpAll K B (kvs.map (·.2)) ds → (putK kvs k v).map (·.1) = (putKs (kvs.map (·.1)) ds k d).1 ∧ RpAll K B ((putK kvs k v).map (·.2)) (putKs (kvs.map (·.1)) ds k d).2
  | [], _, _, h => by
    cases h
    exact ⟨rfl, .cons r .nil⟩
  | p :: m, _, nd, h => by
    rw [List.map_cons, List.nodup_cons] at nd
    cases h with
    | cons h1 h2 =>
      rename_i d1 ds1
      by_cases e : p.1 = k
      · have q1 : putK (p :: m) k v = (p.1, v) :: m := by
          unfold putK
          rw [if_pos (by rw [List.any_cons, decide_eq_true e, Bool.true_or])]
          rw [List.map_cons, if_pos e]
          congr 1
          have : ∀ kv ∈ m, (if kv.1 = k then (kv.1, v) else kv) = kv := fun kv hkv => by
            rw [if_neg]
            intro z
            exact nd.1 (by rw [e, ← z]; exact List.mem_map_of_mem hkv)
          rw [List.map_congr_left this]
          exact List.map_id _
        have q2 : putKs ((p :: m).map (·.1)) (d1 :: ds1) k d = (p.1 :: m.map (·.1), d :: ds1) := by
          show (if p.1 = k then _ else _) = _
          rw [if_pos e]
        rw [q1, q2]
        exact ⟨rfl, .cons r h2⟩
      · obtain ⟨i1, i2⟩ := RpAll.put (k := k) r nd.2 h2
        have q1 : putK (p :: m) k v = p :: putK m k v := by
          unfold putK
          rw [List.any_cons, decide_eq_false e, Bool.false_or, List.map_cons, if_neg e]
          split <;> rfl
        have q2 : putKs ((p :: m).map (·.1)) (d1 :: ds1) k d = (p.1 :: (putKs (m.map (·.1)) ds1 k d).1, d1 :: (putKs (m.map (·.1)) ds1 k d).2) := by
          show (if p.1 = k then _ else _) = _
          rw [if_neg e]
        rw [q1, q2]
        exact ⟨by rw [List.map_cons, i1], .cons h1 i2⟩
@[simp] def sPut (i : Nat) (fk f : En → Option D) : En → Option Out := fun en => (f en).bind fun d => (fk en).bind fun k => (keyOf k).bind fun k => match en[i]? with
  | some (.owd ks ds) => if ks.Nodup ∧ ks.length ≤ lim then some (.nx (en.set i (.owd (putKs ks ds k d).1 (putKs ks ds k d).2))) else none
  | _ => none
theorem ds_put {n : Nat} {i : Nat} {x j : Expr} {tj : TE} {fj : En → Option D} {p1 pos' : Pos} (hr : Room n X.A) (hx : PE X x (tVar i)) (hj : DE X j tj fj) (he : DE X e te f)
    (hs : swapsWith e (some (.Subscript x j p1)) pos'.line X.env = pure false := by rfl) :
    DS X (.Assign [.Subscript x j p1] e pos') (sDPut (tVar i) tj te) (sPut i fj f) :=
  ⟨ps_dput (by have := hr.un; omega) hx hj.p he.p hs, fun B0 H0 B H σ en o hE q Dn k => by
    obtain ⟨d, e1, q⟩ := obind q
    obtain ⟨z, e2, q⟩ := obind q
    obtain ⟨key, e3, q⟩ := obind q
    refine he.c B0 H0 B H σ en d hE e1 _ fun v B1 H1 x1 r1 => ?_
    split at q
    · rename_i ks ds hi
      obtain ⟨⟨hnd, hl⟩, rfl⟩ := oite q
      obtain ⟨p, kvs, hp, hb, hh, rfl, r, f0⟩ := hE.owd hi
      refine ⟨.ref p, hp, ?_⟩
      refine hj.c B0 H0 B1 H1 σ en z (hE.up x1) e2 _ fun w B2 H2 x2 r2 => ?_
      have := key_of_rp r2 e3
      subst this
      have x3 := x1.trans x2
      have hh1 := x3.hh _ _ hh
      have hb1 : B2 p = none := (x3.st p (ne_some hh)).trans hb
      obtain ⟨i1, i2⟩ := RpAll.put (k := key) (r1.up x2.bb) hnd (r.up x3.bb)
      refine ⟨p, _, rfl, DPut.k hh1 (lim_lt (by rw [List.length_map] at hl; exact hl)), ?_⟩
      exact k _ B2 _ x3.bb ((hE.up x3).chg hi rfl rfl hp hb1 ⟨p, _, rfl, hb1, upd_same, i1, i2⟩)
    · cases q⟩
def forGo (gd : D → En → Option En) (g : En → Option Out) : List D → En → Option Out
  | [], en => some (.nx en)
  | d :: r, en => (gd d en).bind fun en1 => (g en1).bind fun
    | .nx en2 => forGo gd g r en2
    | .ct en2 => forGo gd g r en2
    | .bk en2 => some (.nx en2)
    | .rt v => some (.rt v)
    | .rm t en2 => some (.rm t en2)
def sFor (fi : En → Option (List D)) (gd : D → En → Option En) (g : En → Option Out) : En → Option Out := fun en => (fi en).bind fun ds => forGo gd g ds en
theorem cs_for {wi : TI} {tgt : TG} {fi : En → Option (List D)} {gd : D → En → Option En} {is : List Nat} (hi : CI K wi fi) (hg : CG K tgt gd is) (hb : CS K t g) : CS K (tFor wi tgt t) (sFor fi gd g) := fun B0 H0 B H σ en o hE e Dn k => by
  obtain ⟨ds, e1, e⟩ := obind e
  refine hi B0 H0 B H σ en ds hE e1 _ fun J B1 H1 x1 W => ?_
  refine ⟨fun i m σ' H' => m = ds.length - i ∧ i ≤ ds.length ∧ ∃ B' en', Ex B1 B' ∧ EnOk K B0 H0 B' H' σ' en' ∧ forGo gd g (ds.drop i) en' = some o, ⟨ds.length, by simp, Nat.zero_le _, B1, en, Ex.refl _, hE.up x1, e⟩, ?_⟩
  rintro i m σ' H' ⟨rfl, hi', B', en', x2, hE', hgo⟩
  by_cases hlt : i < ds.length
  · have hd : ds[i]? = some ds[i] := List.getElem?_eq_getElem hlt
    rw [List.drop_eq_getElem_cons hlt] at hgo
    obtain ⟨en1, g1, hgo⟩ := obind hgo
    obtain ⟨o1, g2, hgo⟩ := obind hgo
    refine .inr ⟨W.go i H' _ (x2.trans hE'.bh) hd, fun σ'' H'' => ∃ B'' en'', Ex B1 B'' ∧ EnOk K B0 H0 B'' H'' σ'' en'' ∧ forGo gd g (ds.drop (i + 1)) en'' = some o, fun σ'' H'' q => ⟨ds.length - (i + 1), by omega, rfl, hlt, q⟩, fun v H2 y => ?_⟩
    obtain ⟨B2, x3, r2⟩ := W.yl i B' H' _ v H2 x2 hE'.bh hd y
    refine hg B0 H0 B2 H2 σ' en' v _ en1 (hE'.up x3) r2 g1 _ fun σ2 B3 H3 x4 hE3 l3 k3 => ?_
    refine hb B0 H0 B3 H3 σ2 en1 o1 hE3 g2 _ ?_
    have x5 := x2.trans (x3.bb.trans x4.bb)
    cases o1 with
    | nx en2 => exact fun σ4 B4 H4 x6 hE4 => ⟨B4, en2, x5.trans x6, hE4, hgo⟩
    | ct en2 => exact fun σ4 B4 H4 x6 hE4 => ⟨B4, en2, x5.trans x6, hE4, hgo⟩
    | bk en2 =>
      cases hgo
      exact fun σ4 B4 H4 x6 hE4 => k σ4 B4 H4 (x1.bb.trans (x5.trans x6)) hE4
    | rt d =>
      cases hgo
      exact k
    | rm t2 en2 =>
      cases hgo
      exact fun v A σ4 B4 H4 x6 => k v A σ4 B4 H4 (x1.bb.trans (x5.trans x6))
  · have hi2 : i = ds.length := by omega
    subst hi2
    rw [List.drop_length] at hgo
    cases hgo
    exact .inl ⟨W.stop _ H' (x2.trans hE'.bh) (Nat.le_refl _), k σ' B' H' (x1.bb.trans x2) hE'⟩
theorem ds_for {iter : Expr} {body : List Stmt} {wi : TI} {tgt : TG} {fi : En → Option (List D)} {gd : D → En → Option En} {is : List Nat} (hp : PassesOwn (model X.prog X.w) X.A X.env X.xe) (hc : X.calm = true) (hi : DI X tg iter wi fi) (hg : DG X tg tgt gd is) (hb : DSs X body t g)
    (hs : ∀ x, foldedSetIterable iter X.env x = pure x := by intro _; rfl) : DS X (.For tg iter body [] pos) (tFor wi tgt t) (sFor fi gd g) := ⟨ps_for hp hc hi.p hg.p hb.p hs, cs_for hi.c hg.c hb.c⟩

@[simp] def entry (n : Nat) (ds : List D) : En := ds.map Sl.dat ++ List.replicate (n - ds.length) .no
def runD (g : En → Option Out) (n k : Nat) : List D → Option D := fun ds => if ds.length = k then (g (entry n ds)).bind fun
  | .rt d => some d
  | .nx _ => some .non
  | _ => none else none
def spD (K : PySem.W.Frag) (F : List D → Option D) : Sp := fun vs H Q _ => ∃ B ds d, Ex B H ∧ RpAll K B vs ds ∧ F ds = some d ∧ Kp K B H d Q
theorem entry_ok {vs : List V} {ds : List D} {N : List Str} (hB : Ex B H) (r : RpAll K B vs ds) (hl : vs.length ≤ N.length) : EnOk K B (HB.of H) B H (L2.start N vs) (entry N.length ds) := by
  have hlen := r.len
  have cs : ∀ (i : Nat) (s : Sl), (entry N.length ds)[i]? = some s → s = .no ∨ ∃ d, s = .dat d := fun i s e => by
    unfold entry at e
    by_cases h : i < (ds.map Sl.dat).length
    · rw [List.getElem?_append_left h, List.getElem?_map] at e
      obtain ⟨d, _, rfl⟩ := omap e
      exact .inr ⟨d, rfl⟩
    · rw [List.getElem?_append_right (by omega), List.getElem?_replicate] at e
      split at e
      · cases e; exact .inl rfl
      · cases e
  have nomut : ∀ (i : Nat) (s : Sl) (o : Option V) (q : Addr), (entry N.length ds)[i]? = some s → Ft K B H s o q → False := fun i s o q e f => by
    rcases cs i s e with rfl | ⟨d, rfl⟩
    · exact f
    · exact f
  refine ⟨Ext.refl hB, ?_, fun i s o a b => ?_, fun i j si sj oi oj q a b _ _ f _ => (nomut i si oi q a f).elim, fun i s o q a _ f => (nomut i s o q a f).elim, fun i t o a _ => ?_, fun i t o a _ => ?_⟩
  · unfold L2.start entry
    rw [List.length_append, List.length_append, List.length_map, List.length_map, List.length_replicate, List.length_replicate, hlen]
  · unfold entry at a
    unfold L2.start at b
    by_cases h : i < ds.length
    · rw [List.getElem?_append_left (by rw [List.length_map]; exact h), List.getElem?_map] at a
      rw [List.getElem?_append_left (by rw [List.length_map]; omega), List.getElem?_map] at b
      obtain ⟨d, e1, rfl⟩ := omap a
      obtain ⟨v, e2, rfl⟩ := omap b
      obtain ⟨v', e3, r'⟩ := r.get i e1
      rw [e2] at e3; cases e3
      exact ⟨_, rfl, r'⟩
    · rw [List.getElem?_append_right (by rw [List.length_map]; omega), List.getElem?_replicate] at a
      split at a
      · cases a; trivial
      · cases a
  · rcases cs i _ a with z | ⟨d, z⟩ <;> cases z
  · rcases cs i _ a with z | ⟨d, z⟩ <;> cases z
theorem fn_ok {P : Program} {w : World} {mg : Str → Option Value} {base : Heap} {x qual : Str} {st : Stmt} {f : Addr} {fd : FuncData} {N ps : List Str} {k : Nat} {g : En → Option Out} (F : Fun K x qual st f fd) (S : FnScope N ps (defScope st)) (hps : ps.length ≤ N.length)
    (hbody : ∀ (cdv : Value) (A : Around) (outer : List Env) (s : Shared) (H : Hp) (E : XK), Room k (A.deeper (envOfC qual (defScope st) s.heap.objs.size f cdv)) →
      ∃ t, DSs (cxOf CX0 P w K mg base N qual (defScope st) f cdv A outer s H E).nox (defBody st) t g) : FnOk P w K mg base CX0 (k + 1) f fd ps (spD K (runD g N.length ps.length)) := by
  refine F.ok S (fun vs H Q E h => ?_) (fun cdv A outer s H vs Q E hr h => ?_)
  · obtain ⟨B, ds, d, _, r, e, _⟩ := h
    unfold runD at e
    by_cases hl : ds.length = ps.length
    · rw [r.len]; exact hl
    · rw [if_neg hl] at e; cases e
  · obtain ⟨B, ds, d, hB, r, e, kq⟩ := h
    obtain ⟨t, hd⟩ := hbody cdv A outer s H E hr
    refine ⟨t, hd.p, ?_⟩
    unfold runD at e
    by_cases hl : ds.length = ps.length
    · rw [if_pos hl] at e
      obtain ⟨o, e1, e⟩ := obind e
      refine hd.c B (HB.of H) B H (L2.start N vs) (entry N.length ds) o (entry_ok hB r (by rw [r.len, hl]; exact hps)) e1 _ ?_
      cases o with
      | nx en => cases e; exact fun σ' B' H' x hE => kq .non B' H' hE.ext .non
      | rt d => cases e; exact kq
      | bk en => cases e
      | ct en => cases e
      | rm t en => cases e
    · rw [if_neg hl] at e; cases e
@[simp] def dCall (F : List D → Option D) (fr : En → Option (List D)) : En → Option D := fun en => (fr en).bind F
theorem de_call {F : List D → Option D} {k : Nat} {f : Addr} {fd : FuncData} {ps : List Str} {x : Str} {p : Pos} (G : FnOk X.prog X.w X.K X.mg X.base CX0 k f fd ps (spD X.K F)) (hr : Room k X.A) (hg : Gl X x) (hm : X.mg x = some (.ref f)) (hk : PySem.W.keepIn X.K (.ref f) = true) (hb : Binds X.K fd ps [])
    (ha : DA X (e :: es) tr fr) (hdb : (x == ("__debug__" : Str)) = false := by decide) (he : starEach (e :: es) X.env = (false, eval e X.env) :: starEach es X.env := by rfl) (hpl : (backTo pos (starEach es X.env)).any (·.1) = false := by rfl) :
    DE X (.Call (.Name x p) (e :: es) [] pos) (tCall (spD X.K F) [] E0 tr) (dCall F fr) := ⟨pe_call G hr hg hm hk hb .nil pass0 ha.p hdb he hpl, fun B0 H0 B H σ en d hE e Q k => by
  obtain ⟨ds, e1, e⟩ := obind e
  refine ha.c B0 H0 B H σ en ds hE e1 _ fun vs B1 H1 x r => ?_
  refine ⟨B1, ds, d, x.bh, by rw [List.append_nil]; exact r, e, fun v B2 H2 y r2 => k v B2 H2 (x.trans y) r2⟩⟩
end
end DD

namespace DD
open PySem PySem.Spec PyProof.Rows L2 Evl

section
variable {K : PySem.W.Frag} {X : Cx} {pos : Pos} {tg a b c e : Expr} {ta tb tc te : TE} {fa fb fc f : En → Option D} {B B1 H B0 : Hp} {H0 : HB} {tt tu : TT} {ft fu : En → Option Bool} {es rest : List Expr} {tr : TA} {fr : En → Option (List D)}

theorem dt_cmpR {op : CmpOp} {r : R2} {g : D → D → Option D} (ho : OpR X (compareOp op) r) (hr : OpD X.K r g) (ha : DE X a ta fa) (hb : DE X b tb fb) (hm : behindInMarks op b = false) : DT X (.Compare a [op] [b] pos) (tTest (tOp r ta tb)) (tBl (d2 g fa fb)) := ⟨pt_cmpR ho ha.p hb.p hm, ct_test (ce_op hr ha.c hb.c)⟩
theorem dt_lt (ha : DE X a ta fa) (hb : DE X b tb fb) : DT X (.Compare a [.Lt] [b] pos) (tTest (tOp rL1 ta tb)) (tBl (d2 gLt fa fb)) := dt_cmpR op_lt od_lt ha hb (nomark _)
theorem dt_gt (ha : DE X a ta fa) (hb : DE X b tb fb) : DT X (.Compare a [.Gt] [b] pos) (tTest (tOp rG1 ta tb)) (tBl (d2 gGt fa fb)) := dt_cmpR op_gt od_gt ha hb (nomark _)
theorem dt_ge (ha : DE X a ta fa) (hb : DE X b tb fb) : DT X (.Compare a [.GtE] [b] pos) (tTest (tOp rG2 ta tb)) (tBl (d2 gGe fa fb)) := dt_cmpR op_ge od_ge ha hb (nomark _)
theorem dt_eq {n : Nat} (hr : Room n X.A) (ha : DE X a ta fa) (hb : DE X b tb fb) : DT X (.Compare a [.Eq] [b] pos) (tTest (tOp (rEqD X.K) ta tb)) (tBl (d2 gEq fa fb)) := dt_cmpR (op_eqD hr.units) od_eq ha hb (nomark _)
theorem dt_ne {n : Nat} (hr : Room n X.A) (ha : DE X a ta fa) (hb : DE X b tb fb) : DT X (.Compare a [.NotEq] [b] pos) (tTest (tOp (rNeD X.K) ta tb)) (tBl (d2 gNe fa fb)) := dt_cmpR (op_neD hr.units) od_ne ha hb (nomark _)
@[simp] def dIsL (fa : En → Option D) : En → Option D := fun en => (fa en).bind fun
  | .lst _ => some (.bl true)
  | _ => none
def leS (x y : Str) : Bool := !decide (y.cps.toList < x.cps.toList)
def srt (ys : List Str) : List Str := ys.mergeSort leS
theorem leS_trans (a b c : Str) (h1 : leS a b = true) (h2 : leS b c = true) : leS a c = true := by
  unfold leS at h1 h2 ⊢
  simp only [Bool.not_eq_true', decide_eq_false_iff_not] at h1 h2 ⊢
  exact fun z => (List.le_trans (l₁ := a.cps.toList) (l₂ := b.cps.toList) (l₃ := c.cps.toList) h1 h2) z
theorem leS_total (a b : Str) : (leS a b || leS b a) = true := by
  unfold leS
  have h : ¬ b.cps.toList < a.cps.toList ∨ ¬ a.cps.toList < b.cps.toList := List.le_total _ _
  simp only [Bool.or_eq_true, Bool.not_eq_true', decide_eq_false_iff_not]
  exact h
theorem leS_anti (a b : Str) (h1 : leS a b = true) (h2 : leS b a = true) : a = b := by
  unfold leS at h1 h2
  simp only [Bool.not_eq_true', decide_eq_false_iff_not] at h1 h2
  have e : a.cps.toList = b.cps.toList := List.le_antisymm h1 h2
  obtain ⟨x⟩ := a
  obtain ⟨y⟩ := b
  congr 1
  exact Array.toList_inj.mp e
theorem rising_pw : ∀ (l : List Str) (p : Str), risingS p l = true → (p :: l).Pairwise (fun a b => leS a b = true)
  | [], p, _ => List.pairwise_singleton _ _
  | x :: r, p, h => by
    have h : (!Spec.ltCps x.cps.toList p.cps.toList && risingS x r) = true := h
    rw [Bool.and_eq_true, PyProof.Rows.ltCps_eq] at h
    have ih := rising_pw r x h.2
    refine List.pairwise_cons.mpr ⟨fun z hz => ?_, ih⟩
    rcases List.mem_cons.mp hz with rfl | hz
    · exact h.1
    · exact leS_trans p x z h.1 ((List.pairwise_cons.mp ih).1 z hz)
theorem sorted_pw : ∀ (l : List Str), sortedS l = true → l.Pairwise (fun a b => leS a b = true)
  | [], _ => List.Pairwise.nil
  | x :: r, h => rising_pw r x h
theorem srt_one {ys ks : List Str} (hp : ys.Perm ks) (hs : sortedS ys = true) : ys = srt ks :=
  List.Perm.eq_of_pairwise (fun a b _ _ h1 h2 => leS_anti a b h1 h2) (sorted_pw ys hs) (List.pairwise_mergeSort leS_trans leS_total ks) (hp.trans (List.mergeSort_perm ks leS).symm)
def keyStrs : List Key → Option (List Str)
  | [] => some []
  | .inr x :: r => (keyStrs r).map (x :: ·)
  | _ :: _ => none
theorem keyStrs_some : ∀ {ks : List Key} {xs : List Str}, keyStrs ks = some xs → ks = xs.map Sum.inr
  | [], _, e => by cases e; rfl
  | .inr x :: r, _, e => by
    obtain ⟨ys, e1, rfl⟩ := omap e
    rw [keyStrs_some e1] <;> rfl
  | .inl _ :: _, _, e => by cases e
@[simp] def lSortD (fa : En → Option D) : En → Option (List D) := fun en => (fa en).bind fun
  | .dic ks _ => (keyStrs ks).bind fun xs => if xs.length < 64 then some ((srt xs).map D.str) else none
  | _ => none
def rSortD : List V → Hp → VK → Prop := fun xs H Q => ∃ (a : Addr) (kvs : List (Key × V)) (ks : List Str), xs = [.ref a] ∧ Rd H a (.dK kvs) ∧ kvs.map (·.1) = ks.map Sum.inr ∧ ks.length < 64 ∧
    ∀ ys p, ys.Perm ks → sortedS ys = true → H p = none → Q (.ref p) (upd H p (.lst (ys.map V.str)))
theorem dl_sortD {p : Pos} (hc : X.calm = true) (hg : Gl X "sorted") (hm : X.mg "sorted" = none) (ha : DE X a ta fa) (hs : starEach [a] X.env = (false, eval a X.env) :: starEach [] X.env := by rfl) (hpl : (backTo pos (starEach [] X.env)).any (·.1) = false := by rfl) :
    DL X (.Call (.Name "sorted" p) [a] [] pos) (tCB rSortD (tCons ta tNil)) (lSortD fa) := ⟨pe_callB (call_sortedD hc) hg hm (by decide +kernel) (pa_cons ha.p pa_nil hs) (by decide) (by decide) hs hpl, fun B0 H0 B H σ en ds hE e Q k => by
  obtain ⟨x, e1, e⟩ := obind e
  refine ha.c B0 H0 B H σ en x hE e1 _ fun v B1 H1 x1 r => ?_
  split at e
  · obtain ⟨xs, e2, e⟩ := obind e
    obtain ⟨h64, rfl⟩ := oite e
    cases r with
    | dic s q =>
      refine ⟨_, _, xs, rfl, ex_rd x1.bh s, keyStrs_some e2, h64, fun ys p hp hs hn => ?_⟩
      have := srt_one hp hs
      subst this
      exact k p _ B1 _ (x1.trans (Ext.newM x1.bh hn)) (ext_fresh x1 hn) (fresh_back x1.bh hn) upd_same (rp_strs _)
  · cases e⟩
end
end DD

namespace DD
open PySem PySem.Spec PyProof.Rows L2 Evl
section
variable {X : Cx} {pos : Pos} {e : Expr} {te : TE} {f : En → Option D} {fl : En → Option (List D)}
theorem ds_setH {i : Nat} {x : Str} {pos' : Pos} (hN : X.N.Nodup) (hi : X.N[i]? = some x) (hx : Loc X.env.scope x) (he : DE X e te f) (hs : swapsWith e (some (.Name x pos')) pos.line X.env = pure false := by rfl) (hf : X.fn x = true ∨ X.env.scope.names.lookup x = some .local := by first | exact .inl rfl | exact .inr rfl | assumption) :
    DS X (.Assign [.Name x pos'] e pos) (tAsg te (gName i)) (sSet i f) := ds_set he (ps_set hN hi hx he.p hs hf)
theorem ds_ownH {i : Nat} {x : Str} {pos' : Pos} (hN : X.N.Nodup) (hi : X.N[i]? = some x) (hx : Loc X.env.scope x) (he : DL X e te fl) (hs : swapsWith e (some (.Name x pos')) pos.line X.env = pure false := by rfl) (hf : X.fn x = true ∨ X.env.scope.names.lookup x = some .local := by first | exact .inl rfl | exact .inr rfl | assumption) :
    DS X (.Assign [.Name x pos'] e pos) (tAsg te (gName i)) (sOwn i fl) := ds_own he (ps_set hN hi hx he.p hs hf)
end
end DD

namespace DD
open PySem PySem.Spec PyProof.Rows L2 Evl
section
variable {K : PySem.W.Frag} {X : Cx} {pos : Pos} {tg a b c e : Expr} {ta tb tc te : TE} {fa fb fc f : En → Option D} {tt tu : TT} {ft fu : En → Option Bool} {es rest : List Expr} {tr : TA} {fr : En → Option (List D)} {lo hi : Option Expr} {tl th : TO} {fl fh : En → Option (Option Int)}
theorem de_addK (hK : X.K = K) (ha : DE X a ta fa) (hb : DE X b tb fb) : DE X (.BinOp a .Add b pos) (tOp (rAddAll K) ta tb) (d2 gAdd fa fb) := by subst hK; exact de_add ha hb
theorem de_eqK (hK : X.K = K) {n : Nat} (hr : Room n X.A) (ha : DE X a ta fa) (hb : DE X b tb fb) : DE X (.Compare a [.Eq] [b] pos) (tOp (rEqD K) ta tb) (d2 gEq fa fb) := by subst hK; exact de_eq hr ha hb
theorem de_atK (hK : X.K = K) (ha : DE X a ta fa) (hb : DE X b tb fb) (hs : PlainIx b) : DE X (.Subscript a b pos) (tOp (rIx K) ta tb) (d2 gIx fa fb) := by subst hK; exact de_at ha hb hs
theorem dt_neK (hK : X.K = K) {n : Nat} (hr : Room n X.A) (ha : DE X a ta fa) (hb : DE X b tb fb) : DT X (.Compare a [.NotEq] [b] pos) (tTest (tOp (rNeD K) ta tb)) (tBl (d2 gNe fa fb)) := by subst hK; exact dt_ne hr ha hb
theorem de_lenK {p : Pos} (hK : X.K = K) (hg : Gl X "len") (hm : X.mg "len" = none) (ha : DE X a ta fa) (hs : starEach [a] X.env = (false, eval a X.env) :: starEach [] X.env := by rfl) (hpl : (backTo pos (starEach [] X.env)).any (·.1) = false := by rfl) :
    DE X (.Call (.Name "len" p) [a] [] pos) (tCB (rLenA K) (tCons ta tNil)) (dCB gLen (aCons fa aNil)) := by subst hK; exact de_len hg hm ha hs hpl
theorem de_callK {F : List D → Option D} {k : Nat} {f : Addr} {fd : FuncData} {ps : List Str} {x : Str} {p : Pos} (hK : X.K = K) (G : FnOk X.prog X.w K X.mg X.base CX0 k f fd ps (spD K F)) (hr : Room k X.A) (hg : Gl X x) (hm : X.mg x = some (.ref f)) (hk : PySem.W.keepIn K (.ref f) = true) (hb : Binds K fd ps [])
    (ha : DA X (e :: es) tr fr) (hdb : (x == ("__debug__" : Str)) = false := by decide) (he : starEach (e :: es) X.env = (false, eval e X.env) :: starEach es X.env := by rfl) (hpl : (backTo pos (starEach es X.env)).any (·.1) = false := by rfl) :
    DE X (.Call (.Name x p) (e :: es) [] pos) (tCall (spD K F) [] E0 tr) (dCall F fr) := by subst hK; exact de_call G hr hg hm hk hb ha hdb he hpl
end
end DD

namespace ZZ
open PySem PySem.Spec PyProof.Rows L2
section
variable {prog : Program} {w : World} {A : Around} {E : Value → Shared → Prop}
abbrev IsZg (h : Heap) (z TI TO : Addr) (f0 : Value) (f1 : Bool) : Prop :=
  h.get? z = some { cls := .type "zip", dict := none, data := .fields #[f0, .bool f1, .bool false, .ref TI, .ref TO], slots := #[] }
abbrev IsTp (h : Heap) (T : Addr) (vs : List Value) : Prop := h.get? T = some { cls := .type "tuple", data := .seq vs.toArray }
structure Prs (ps : List (Addr × Addr)) : Prop where
  nd : (ps.map (·.1)).Nodup
  ap : ∀ p ∈ ps, ∀ q ∈ ps, p.2 ≠ q.1
theorem Prs.ne {p : Addr × Addr} {ps : List (Addr × Addr)} (h : Prs (p :: ps)) : p.1 ∉ ps.map (·.1) := (List.nodup_cons.mp h.nd).1
abbrev Itr1 (h : Heap) (i : Nat) (ps : List (Addr × Addr)) : Prop := ∀ p ∈ ps, h.IsTupleIter p.1 p.2 i
end
end ZZ

namespace ZZ
open PySem PySem.Spec PyProof.Rows L2
section
variable {prog : Program} {w : World} {A : Around} {E : Value → Shared → Prop} {s : Shared}
structure Sep (z TI TO : Addr) (ps : List (Addr × Addr)) : Prop where
  prs : Prs ps
  zTI : TI ≠ z
  zTO : TO ≠ z
  IO : TI ≠ TO
  zn : z ∉ ps.map (·.1)
  In : TI ∉ ps.map (·.1)
  On : TO ∉ ps.map (·.1)
  tz : ∀ p ∈ ps, p.2 ≠ z
  tO : ∀ p ∈ ps, p.2 ≠ TO
end
end ZZ

namespace ZZ
open PySem PySem.Spec PyProof.Rows L2
end ZZ

namespace ZZ
open PySem PySem.Spec PyProof.Rows L2
def mkPs : Nat → List Addr → List (Addr × Addr)
  | _, [] => []
  | a, t :: r => (a, t) :: mkPs (a + 1) r
section
variable {prog : Program} {w : World} {A : Around} {E : Value → Shared → Prop}
end
structure NewZip (h h' : Heap) (ts : List Addr) : Prop where
  z : IsZg h' (h.objs.size + ts.length + 2) (h.objs.size + ts.length) (h.objs.size + ts.length + 1) .none false
  I : IsTp h' (h.objs.size + ts.length) ((mkPs h.objs.size ts).map fun p => .ref p.1)
  O : IsTp h' (h.objs.size + ts.length + 1) ((mkPs h.objs.size ts).map fun _ => .none)
  it : Itr1 h' 0 (mkPs h.objs.size ts)
  up : ∀ c o, h.get? c = some o → h'.get? c = some o
section
variable {prog : Program} {w : World} {A : Around} {E : Value → Shared → Prop} {s : Shared}
end
end ZZ

namespace DD
open PySem PySem.Spec PyProof.Rows L2 Evl
section
variable {K : PySem.W.Frag} {X : Cx} {pos : Pos} {e : Expr} {te : TE} {f : En → Option D} {B H : Hp}
inductive RowsAt (K : PySem.W.Frag) (H : Hp) : List Addr → List (List D) → Prop
  | nil : RowsAt K H [] []
  | cons {t : Addr} {ts : List Addr} {ds : List D} {rs : List (List D)} {xs : List V} : SqT K H t xs → RpAll K H xs ds → RowsAt K H ts rs → RowsAt K H (t :: ts) (ds :: rs)
theorem RowsAt.len : ∀ {ts : List Addr} {rs : List (List D)}, RowsAt K H ts rs → ts.length = rs.length
  | _, _, .nil => rfl
  | _, _, .cons _ _ q => by rw [List.length_cons, List.length_cons, q.len]
theorem RowsAt.up {H' : Hp} (x : Ex H H') : ∀ {ts : List Addr} {rs : List (List D)}, RowsAt K H ts rs → RowsAt K H' ts rs
  | _, _, .nil => .nil
  | _, _, .cons a b q => .cons (ex_t x a) (b.up x) (q.up x)
theorem RowsAt.mem : ∀ {ts : List Addr} {rs : List (List D)}, RowsAt K H ts rs → ∀ t ∈ ts, ∃ xs ds, SqT K H t xs ∧ RpAll K H xs ds ∧ ds ∈ rs
  | _, _, .nil, _, h => by cases h
  | _, _, .cons a b q, t, h => by
    rcases List.mem_cons.mp h with rfl | h
    · exact ⟨_, _, a, b, List.mem_cons_self⟩
    · obtain ⟨xs, ds, h1, h2, h3⟩ := q.mem t h
      exact ⟨xs, ds, h1, h2, List.mem_cons_of_mem _ h3⟩
theorem RowsAt.col {i : Nat} : ∀ {ts : List Addr} {rs : List (List D)} {ys : List V}, RowsAt K H ts rs → (∀ q ∈ rs, i < q.length) → ys.length = ts.length →
    (∀ (j : Nat) (t : Addr) (xs : List V), ts[j]? = some t → SqT K H t xs → ∃ x, ys[j]? = some x ∧ xs[i]? = some x) → RpAll K H ys (rs.map fun r => r.getD i .non)
  | _, _, ys, .nil, _, hl, _ => by
    cases ys with
    | nil => exact .nil
    | cons y ys => simp at hl
  | _, _, ys, .cons (ds := ds) a b q, hw, hl, h => by
    cases ys with
    | nil => simp at hl
    | cons y ys =>
      obtain ⟨x, h1, h2⟩ := h 0 _ _ rfl a
      have h1 : some y = some x := h1
      cases h1
      have hi : i < ds.length := hw _ List.mem_cons_self
      obtain ⟨v, h3, h4⟩ := b.get i (List.getElem?_eq_getElem hi)
      rw [h2] at h3
      cases h3
      refine .cons ?_ (q.col (fun q hq => hw q (List.mem_cons_of_mem _ hq)) (by simpa using hl) fun j t xs hj hx => h (j + 1) t xs hj hx)
      show Rp K H y (ds.getD i .non)
      rw [List.getD_eq_getElem?_getD, List.getElem?_eq_getElem hi]
      exact h4
end
end DD

namespace ZZ
open PySem PySem.Spec PyProof.Rows L2 HT
section
variable {prog : Program} {w : World} {A : Around} {E : Value → Shared → Prop} {s : Shared}
end
end ZZ
namespace DD
open PySem PySem.Spec PyProof.Rows L2 Evl
section
variable {K : PySem.W.Frag} {X : Cx} {e : Expr} {te : TE} {f : En → Option D}
end
end DD

namespace DD
open PySem PySem.Spec PyProof.Rows L2 Evl
section
variable {K : PySem.W.Frag} {X : Cx}
end
end DD

namespace DD
open PySem PySem.Spec PyProof.Rows L2 Evl
section
variable {X : Cx} {pos : Pos} {tg : Expr} {te : TE} {f : En → Option D} {tt : TT} {ft : En → Option Bool}
theorem ds_setLcD {i : Nat} {y : Str} {py spos : Pos} {elt iter : Expr} {ifs : List Expr} {scope : Scope} {own : List (Str × Nat)} {wi : TI} {g : TG} {fi : En → Option (List D)} {gd : D → En → Option En} {is : List Nat} (hc : X.calm = true) (hN : X.N.Nodup) (hi : DI X tg iter wi fi) (ok : BlkOk X.N X.env.scope scope own)
    (hg : ∀ (s : Shared) (H : Hp) (C : Addr) (cl : List (Str × Addr)) (fp : List Addr), DG (X.blk s H scope (compEnvC scope cl C X.env) fp) tg g gd is) (ht : ∀ (s : Shared) (H : Hp) (C : Addr) (cl : List (Str × Addr)) (fp : List Addr), DTs (X.blk s H scope (compEnvC scope cl C X.env) fp) ifs tt ft)
    (he : ∀ (s : Shared) (H : Hp) (C : Addr) (cl : List (Str × Addr)) (fp : List Addr), DE (X.blk s H scope (compEnvC scope cl C X.env) fp) elt te f) (hy : X.N[i]? = some y) (hyl : X.env.scope.names.lookup y = some .local)
    (hsw : swapsWith (.ListComp elt [⟨tg, iter, ifs, 0⟩] scope pos) (some (.Name y py)) spos.line X.env = pure true) (hsub : ∀ j ∈ is, j ∈ own.map (·.2) := by decide) (hs : ∀ x, foldedSetIterable iter X.env x = pure x := by intro _; rfl) :
    DS X (.Assign [.Name y py] (.ListComp elt [⟨tg, iter, ifs, 0⟩] scope pos) spos) (tAsg (tLc wi g tt te (own.map (·.2))) (gName i)) (sSet i (dL (lLc fi gd ft f (own.map (·.2))))) :=
  ds_set (DL.de (dl_lc (pos := pos) hc hN hi ok hg ht he hsub hs)) (ps_setLc hc hN hy hyl hsw hi.p ok (fun s H C cl fp => (hg s H C cl fp).p) (fun s H C cl fp => (ht s H C cl fp).p) (fun s H C cl fp => (he s H C cl fp).p) hs)
end
end DD

namespace DD
open PySem PySem.Spec PyProof.Rows L2 Evl
section
variable {K : PySem.W.Frag} {X : Cx} {pos : Pos} {a b : Expr} {ta tb : TE} {fa fb : En → Option D} {tr : TA} {fr : En → Option (List D)}
end
end DD

namespace ZZ
open PySem PySem.Spec PyProof.Rows L2
def IteK (K : PySem.W.Frag) (a : Addr) (n : Nat) (k : Int) : It :=
  ⟨fun i H => ∃ (xs : List V) (x : V), SqL K H a xs ∧ xs.length = n ∧ xs[i]? = some x, fun i H v H' => ∃ T x, v = .ref T ∧ H T = none ∧ H' = upd H T (.tup [.int (k + (i : Nat)), x]) ∧ ∀ xs, SqL K H a xs → xs[i]? = some x,
    fun i H => ∃ xs : List V, SqL K H a xs ∧ xs.length = n ∧ n ≤ i⟩
theorem turn_enumK {P : Program} {w : World} {K : PySem.W.Frag} {elts : List Expr} {kk : Nat} {tpos : Pos} {a e it : Addr} {n : Nat} {k : Int} (hai : a ≠ it) (hne : e ≠ it) (hea : e ≠ a) :
    Turn P w K (.Tuple elts kk tpos) (IteK K a n k) [e, it] e (fun i h => (∃ old, IsEnum h e it (k + ((i : Nat) : Int)) old) ∧ h.IsListIter it a i ∧ i ≤ n) where
  mem := by simp
  obj := fun i h st b hb => by
    obtain ⟨⟨old, he⟩, ⟨o, ho, hc, hd⟩, _⟩ := st
    have e' : b = e ∨ b = it := by simpa using hb
    rcases e' with z | z
    · rw [z]; exact ⟨_, he, fun v q => nomatch q⟩
    · rw [z]; exact ⟨o, ho, fun v q => by rw [hd] at q; cases q⟩
  keep := fun i h h' st k => let ⟨⟨old, he⟩, hi, hn⟩ := st; ⟨⟨old, k e (by simp) _ he⟩, hi.at fun o q => k it (by simp) o q, hn⟩
  item := by
    intro X hP hw hK hc i pins s σ H E I hf st hg
    subst hP hw hK
    obtain ⟨⟨old, he⟩, hit, hn⟩ := st
    obtain ⟨xs, x, hq, hln, hx⟩ := hg
    obtain ⟨its, rv, p, hz⟩ := I.list hq
    obtain ⟨u, hu, ru⟩ := rv.get hx
    have hel : e < s.heap.objs.size := Heap.lt_size he
    have hil : it < s.heap.objs.size := by obtain ⟨_, q, _⟩ := hit; exact Heap.lt_size q
    have hlt : i < its.toArray.size := by
      rw [List.size_toArray]
      exact (List.getElem?_eq_some_iff.mp hu).1
    refine wpAny_pyNext_enum_itemC (Draws.list (A := X.A.in1) (show X.A.in1.handled = none from I.ok.hd hc) it a hai its.toArray) he ⟨hit, p.isList⟩ hlt hne (by simp [hne, hea]) fun y h' tk hy ho hit' hT hsz hk => ?_
    have hy : its.toArray[i]? = some y := hy
    have : y = u := by
      have e1 : its.toArray[i]? = some u := by simpa using hu
      rw [e1] at hy
      injection hy with hy
      exact hy.symm
    subst this
    refine ⟨_, rfl, wpAny_letOwnedTupleGo_enum (s := { s with heap := h', toks := tk + 1 }) ho fun h'' he' sb => ?_⟩
    have hT2 : h''.get? s.heap.objs.size = some { cls := .type "tuple", data := .seq #[.int (k + (i : Nat)) tk, y] } := (sb.2 _ (Nat.ne_of_gt hel)).trans hT
    have new : ObjOk X.prog X.w (upd H s.heap.objs.size (.tup [.int (k + (i : Nat)), x])) h'' s.heap.objs.size (.tup [.int (k + (i : Nat)), x]) :=
      ⟨by show 2 ≤ sizeLine; decide, [.int (k + (i : Nat)) tk, y], .cons ⟨_, rfl⟩ (.cons ru .nil), ⟨_, hT2, rfl, _, rfl⟩⟩
    have I1 : Inv X pins σ (upd H s.heap.objs.size (.tup [.int (k + (i : Nat)), x])) { s with heap := h'', toks := tk + 1 } :=
      I.turnedNew (ch := [e, it]) (fun b ob hb q => (sb.2 b (fun z => hb (by simp [z]))).trans (hk b ob (fun z => hb (by simp [z])) (fun z => hb (by simp [z])) q)) hf (Nat.le_refl _) new
    refine ⟨.ref s.heap.objs.size, _, I1, rfl, ⟨_, x, rfl, I.hok.fresh (Nat.le_refl _), rfl, fun ys hy => by rw [I.list_inj hy hq]; exact hx⟩, ⟨⟨y, ?_⟩, hit'.1.at fun o q => (sb.2 it (Ne.symm hne)).trans q, ?_⟩, fun b hb => ?_⟩
    · have e1 : k + ((i + 1 : Nat) : Int) = k + (i : Int) + 1 := by omega
      rw [e1]; exact he'
    · have := (List.getElem?_eq_some_iff.mp hx).1
      omega
    · have hb' : b < s.heap.objs.size := by
        have e' : b = e ∨ b = it := by simpa using hb
        rcases e' with z | z
        · rw [z]; exact hel
        · rw [z]; exact hil
      rw [upd_ne (Nat.ne_of_lt hb')]
      exact (hf b hb).1
  done := by
    intro X hP hw hK hc i pins s σ H E I hf st hg
    subst hP hw hK
    obtain ⟨⟨old, he⟩, hit, hn⟩ := st
    obtain ⟨xs, hq, hln, hx⟩ := hg
    obtain ⟨its, rv, p, hz⟩ := I.list hq
    obtain ⟨f0, f1, f2, f3, f4, f5⟩ := hf it (by simp)
    have hl := rv.length
    have hi : i = its.toArray.size := by rw [List.size_toArray]; omega
    subst hi
    exact wpAny_pyNext_enum_endD (Draws.list (A := X.A.in1) (show X.A.in1.handled = none from I.ok.hd hc) it a hai its.toArray) he ⟨hit, p.isList⟩ fun h' eb => ⟨rfl, I.turned (t' := s.toks) (fun b o hb q => eb b o hb q) f0 f1 f3 f4 f5⟩
  self := fun A i s Q E st h => let ⟨⟨_, he⟩, _⟩ := st; wpAny_pyIter_enum he h
theorem callWith_type_kw {M : Model} {A : Around} {E : Value → Shared → Prop} {s : Shared} {env : Env} {pos : Pos} {T : String} {e : Expr} {rest : List Expr} {kws : List Keyword} {Q : Value → Shared → Prop}
    (h : wpAny M A (spliced (backTo pos (starEach (e :: rest) env))) (fun vs s₁ => wpAny M A (evalAll ((backToKw pos (keywordEach kws env)).map (·.2)))
      (fun kvs s₂ => wpAny M A (call (.type T) vs (((backToKw pos (keywordEach kws env)).filterMap (·.1)).zip kvs)) Q E s₂) E s₁) E s)
    (he : backTo pos (starEach (e :: rest) env) = (false, eval e env) :: backTo pos (starEach rest env) := by rfl)
    (hplain : (backTo pos (starEach (e :: rest) env)).any (·.1) = false := by rfl)
    (hall : (backToKw pos (keywordEach kws env)).all (·.1.isSome) = true := by rfl)
    (hkw : (backToKw pos (keywordEach kws env)).any (·.1.isNone) = false := by rfl) :
    wpAny M A (callWith pos (.type T) [] (backTo pos (starEach (e :: rest) env)) (backToKw pos (keywordEach kws env))) Q E s := by
  have h2 : wpAny M A (evalArgs (.type T) true (backTo pos (starEach (e :: rest) env)) (backToKw pos (keywordEach kws env))) (fun a s₁ => wpAny M A (call (.type T) ([] ++ a.pos) a.kw) Q E s₁) E s := by
    rw [he] at h ⊢
    exact evalArgs_kwB hall h
  unfold callWith
  refine wpAny_bind (wpAny_holding (wpAny_mono h2 (fun a s₁ h₁ => wpAny_bind (wpAny_standAt ?_)) fun _ _ x => x))
  simp only [hplain, hkw, Bool.or_false]
  refine wpAny_bind (wpAny_pure ?_)
  exact wpAny_bind (wpAny_mono h₁ (fun r s₂ hr => wpAny_bind (wpAny_holding (wpAny_point (wpAny_pure hr)))) fun _ _ x => x)
def iEnumKR (K : PySem.W.Frag) (ta : TA) (k : Int) : TI := fun σ H R => ta σ H fun vs H1 => ∃ a xs, vs = [.ref a] ∧ SqL K H1 a xs ∧ -(2 ^ 63) ≤ k ∧ k < 2 ^ 63 ∧ R (IteK K a xs.length k) H1
theorem pi_enumK {X : Cx} {e : Expr} {ta : TA} {p pos tpos kp cp : Pos} {elts : List Expr} {kk j : Nat} {k : Int} (hg : Gl X "enumerate") (hm : X.mg "enumerate" = none) (ha : PA X [e] ta)
    (he : backTo pos (starEach [e] X.env) = (false, eval e X.env) :: backTo pos (starEach [] X.env) := by rfl) (hplain : (backTo pos (starEach [e] X.env)).any (·.1) = false := by rfl) :
    PI X (.Tuple elts kk tpos) (.Call (.Name "enumerate" p) [e] [⟨some "start", .Constant (.int k) j cp, kp⟩] pos) (iEnumKR X.K ta k) := by
  refine ⟨fun pins s σ H R I h => ?_⟩
  refine wpAny_Call_Name_kw (ld_blt I hg hm boot_enumerate (callWith_type_kw (thn (ha.run pos pins s σ H _ I h) fun us s1 ⟨vs, H1, I1, r1, q1⟩ => ?_) he hplain))
  refine kws_cons (thn ((pe_int (X := X) (i := k) (j := j) (pos := cp)).run pins s1 σ H1 (fun x H2 => x = .int k ∧ H2 = H1) I1 ⟨rfl, rfl⟩) fun v s2 ⟨x, H2, I2, rx, ex, eh⟩ => kws_nil ?_)
  subst ex eh
  obtain ⟨t, rfl⟩ := rx
  obtain ⟨a, xs, ex, hq, k0, k1, q⟩ := q1
  subst ex
  cases r1 with
  | cons r rr =>
    cases rr
    cases r
    obtain ⟨its, rv, p', hz⟩ := I2.list hq
    obtain ⟨o, ho, _⟩ := p'.isList
    have hal : a < s2.heap.objs.size := Heap.lt_size ho
    refine enum_begins_start (begins_list a its.toArray) p'.isList k0 k1 fun h' he hit hsz hk => wpAny_pyIter_enum he ?_
    have I3 : Inv X pins σ H2 { s2 with heap := h' } := I2.kept (t' := s2.toks) hk
    have T := turn_enumK (P := X.prog) (w := X.w) (K := X.K) (elts := elts) (kk := kk) (tpos := tpos) (a := a) (e := s2.heap.objs.size + 1) (it := s2.heap.objs.size) (n := xs.length) (k := k) (Nat.ne_of_lt hal) (Nat.succ_ne_self _) (Nat.ne_of_gt (Nat.lt_of_lt_of_le hal (Nat.le_add_right _ _)))
    have e0 : k + ((0 : Nat) : Int) = k := by omega
    refine ⟨s2.heap.objs.size + 1, [s2.heap.objs.size + 1, s2.heap.objs.size], _, _, H2, rfl, I3, T, ⟨⟨.none, by rw [e0]; exact he⟩, ⟨_, hit, rfl, rfl⟩, Nat.zero_le _⟩, fun b hb => ?_, q⟩
    have e' : b = s2.heap.objs.size + 1 ∨ b = s2.heap.objs.size := by simpa using hb
    have hle : s2.heap.objs.size ≤ b := by
      rcases e' with z | z
      · rw [z]; exact Nat.le_add_right _ _
      · rw [z]; exact Nat.le_refl _
    exact I2.fpOk hle (I2.hok.fresh hle)
end ZZ

namespace DD
open PySem PySem.Spec PyProof.Rows L2 Evl
section
variable {K : PySem.W.Frag} {X : Cx} {e x : Expr} {te ta : TE} {f fa : En → Option D} {B : Hp}
def countD (k : Int) (ds : List D) : List D := ds.zipIdx.map fun p => .tup [.int (k + (p.2 : Nat)), p.1]
theorem countD_get {k : Int} {ds : List D} {i : Nat} {d : D} (h : (countD k ds)[i]? = some d) : ∃ c, ds[i]? = some c ∧ d = .tup [.int (k + (i : Nat)), c] := by
  unfold countD at h
  rw [List.getElem?_map, List.getElem?_zipIdx] at h
  obtain ⟨p, h1, rfl⟩ := omap h
  obtain ⟨c, h2, rfl⟩ := omap h1
  refine ⟨c, h2, ?_⟩
  show D.tup [.int (k + ((0 + i : Nat) : Int)), c] = _
  rw [Nat.zero_add]
theorem countD_len {k : Int} {ds : List D} : (countD k ds).length = ds.length := by unfold countD; rw [List.length_map, List.length_zipIdx]
def iEnumK (k : Int) (f : En → Option D) : En → Option (List D) := fun en => (f en).bind fun
  | .lst ds => some (countD k ds)
  | _ => none
theorem walk_ek {p : Addr} {vs : List V} {ds : List D} {k : Int} (s : SqL K B p vs) (r : RpAll K B vs ds) : WalkD K (ZZ.IteK K p vs.length k) B (countD k ds) where
  go := fun i H d hE e => by
    obtain ⟨c, h1, rfl⟩ := countD_get e
    obtain ⟨v, h2, _⟩ := r.get i h1
    exact ⟨vs, v, ex_l hE s, rfl, h2⟩
  yl := fun i B1 H d x H' h1 h2 e y => by
    obtain ⟨c, h3, rfl⟩ := countD_get e
    obtain ⟨v, q1, q2⟩ := r.get i h3
    obtain ⟨T, u, rfl, hT, rfl, hy⟩ := y
    have := hy vs (ex_l (h1.trans h2) s)
    rw [q1] at this
    cases this
    exact ⟨_, Ext.new h2 hT, .tup upd_same ((RpAll.cons (.int _) (.cons (q2.up h1) .nil)).up (Ex.new (fresh_back h2 hT)))⟩
  stop := fun i H hE hl => by
    rw [countD_len, ← r.len] at hl
    exact ⟨vs, ex_l hE s, rfl, hl⟩
theorem di_enumK {elts : List Expr} {kk j : Nat} {k : Int} {p pos tpos kp cp : Pos} (hK : X.K = K) (hg : Gl X "enumerate") (hm : X.mg "enumerate" = none) (ha : DE X e te f) (hk0 : -(2 ^ 63) ≤ k := by decide) (hk1 : k < 2 ^ 63 := by decide)
    (hs : starEach [e] X.env = (false, eval e X.env) :: starEach [] X.env := by rfl) (he : backTo pos (starEach [e] X.env) = (false, eval e X.env) :: backTo pos (starEach [] X.env) := by rfl) (hplain : (backTo pos (starEach [e] X.env)).any (·.1) = false := by rfl) :
    DI X (.Tuple elts kk tpos) (.Call (.Name "enumerate" p) [e] [⟨some "start", .Constant (.int k) j cp, kp⟩] pos) (ZZ.iEnumKR K (tCons te tNil) k) (iEnumK k f) := by
  subst hK
  exact ⟨ZZ.pi_enumK hg hm (pa_cons ha.p pa_nil hs) he hplain, fun B0 H0 B H σ en ds hE e R kont => by
    obtain ⟨d, e1, e⟩ := obind e
    refine ha.c B0 H0 B H σ en d hE e1 _ fun v B1 H1 x r => ?_
    split at e
    · cases e
      cases r with
      | lst s q => exact ⟨_, _, rfl, ex_l x.bh s, hk0, hk1, kont _ B1 H1 x (walk_ek s q)⟩
    · cases e⟩
theorem RpAll.dl : ∀ {vs : List V} {ds : List D}, RpAll K B vs ds → RpAll K B vs.dropLast ds.dropLast
  | _, _, .nil => .nil
  | _, _, .cons a .nil => .nil
  | _, _, .cons a (.cons b c) => by
    rw [List.dropLast_cons₂, List.dropLast_cons₂]
    exact .cons a (RpAll.dl (.cons b c))
end
end DD

namespace DD
open PySem PySem.Spec PyProof.Rows L2 Evl
section
variable {K : PySem.W.Frag} {X : Cx} {pos : Pos} {a b : Expr} {ta tb : TE} {fa fb : En → Option D}
end
end DD

namespace DD
open PySem PySem.Spec PyProof.Rows L2 Evl
def CxA (X : Cx) (A : Around) : Cx := { X with A := A }
section
variable {X : Cx} {A : Around} {pins : List (Addr × Obj)} {σ : L2.St} {H : Hp} {s : Shared}
theorem ok_A (hfr : A.frames = X.A.frames) (hhd : A.handled = X.A.handled) (o : X.Ok) : (CxA X A).Ok :=
  ⟨o.mod, o.kind, o.glob, o.blt, o.above, o.inj, o.has, o.cab, fun h => hhd.trans (o.hd h), hfr.trans o.frames, o.stk, o.exf, o.bs, o.bsz, o.noex, o.exfs, o.funs, o.frf⟩
theorem inv_A (hfr : A.frames = X.A.frames) (hhd : A.handled = X.A.handled) (I : L2.Inv X pins σ H s) : L2.Inv (CxA X A) pins σ H s :=
  ⟨ok_A hfr hhd I.ok, I.os, I.bare, I.base, I.loc, I.cell, I.free, I.freeC, I.pin, I.hok, I.len⟩
theorem inv_back (o : X.Ok) (I : L2.Inv (CxA X A) pins σ H s) : L2.Inv X pins σ H s :=
  ⟨o, I.os, I.bare, I.base, I.loc, I.cell, I.free, I.freeC, I.pin, I.hok, I.len⟩
theorem fpokUp {H' : Hp} {b : Addr} (f : FpOk X pins H b) (h : H' b = none) : FpOk X pins H' b := ⟨h, f.2.1, f.2.2.1, f.2.2.2.1, f.2.2.2.2.1, f.2.2.2.2.2⟩
structure MkSt (X : Cx) (pins : List (Addr × Obj)) (σ : L2.St) (B0 H0 : Hp) (p It S : Addr) (j : Nat) (B H : Hp) (s : Shared) : Prop where
  inv : L2.Inv X pins σ H s
  ext : Ext B0 H0 B H
  it : s.heap.IsListIter It p j
  fI : FpOk X pins H It
  fS : FpOk X pins H S
theorem MkSt.set {B0 H0 B : Hp} {p It S : Addr} {j : Nat} {o : Obj} {f : Array Value → Array Value} (m : MkSt X pins σ B0 H0 p It S j B H s) (hne : It ≠ S) : MkSt X pins σ B0 H0 p It S j B H { s with heap := s.heap.update S (Obj.mapSeq f) } := by
  refine ⟨m.inv.turnedL (t' := s.toks) (ch := [S]) (fun b o hb e => ?_) (fun b hb => ?_), m.ext, m.it.at fun o e => ?_, m.fI, m.fS⟩
  · have : b ≠ S := fun z => hb (by rw [z]; exact List.mem_singleton.mpr rfl)
    exact (Heap.get?_update_other _ _ (Ne.symm this)).trans e
  · rw [List.mem_singleton.mp hb]; exact m.fS
  · exact (Heap.get?_update_other _ _ (Ne.symm hne)).trans e
end
section
variable {K : PySem.W.Frag} {X : Cx} {pos : Pos} {a : Expr} {ta : TE} {fa : En → Option D}
end
end DD

namespace ZZ
open PySem PySem.Spec PyProof.Rows L2
section
variable {X : Cx} {A : Around} {pins : List (Addr × Obj)} {s : Shared} {σ : L2.St} {H : Hp} {E : Value → Shared → Prop} {z TI TO : Addr} {ps : List (Addr × Addr)} {i : Nat}
end
end ZZ

namespace DD
open PySem PySem.Spec PyProof.Rows L2 Evl RZ
section
variable {K : PySem.W.Frag} {X : Cx} {pos : Pos} {tg a b c e : Expr} {ta tb tc te : TE} {fa fb fc f : En → Option D} {B B1 H B0 : Hp} {H0 : HB} {tt tu : TT} {ft fu : En → Option Bool} {es rest : List Expr} {tr : TA} {fr : En → Option (List D)}
def sAsgG (f : En → Option D) (gd : D → En → Option En) : En → Option Out := fun en => (f en).bind fun d => (gd d en).map .nx
theorem ds_asgG {pos' : Pos} {g : TG} {gd : D → En → Option En} {is : List Nat} (he : DE X e te f) (hg : DG X tg g gd is) (hs : swapsWithSole [tg] e pos'.line X.env = pure false := by rfl) (hw : swappedStores [tg] e X.env = pure none := by rfl)
    (h1 : (assignEach [tg] X.env).map (·.2) = [assign tg X.env] := by rfl) : DS X (.Assign [tg] e pos') (tAsg te g) (sAsgG f gd) :=
  ⟨ps_asg he.p hg.p hs hw h1, fun B0 H0 B H σ en o hE q Dn k => by
    obtain ⟨d, e1, q⟩ := obind q
    obtain ⟨en', e2, rfl⟩ := omap q
    refine he.c B0 H0 B H σ en d hE e1 _ fun v B1 H1 x r => ?_
    exact hg.c B0 H0 B1 H1 σ en v d en' (hE.up x) r e2 _ fun σ' B2 H2 x2 hE2 _ _ => k σ' B2 H2 (x.bb.trans x2.bb) hE2⟩
def maxD : List Int → Int
  | [] => 0
  | i :: r => r.foldl max i
theorem foldl_max : ∀ (r : List Int) (i : Int), r.foldl max i ∈ i :: r ∧ ∀ y ∈ i :: r, y ≤ r.foldl max i
  | [], i => ⟨by simp, fun y h => by simp at h; show y ≤ i; omega⟩
  | j :: r, i => by
    obtain ⟨h1, h2⟩ := foldl_max r (max i j)
    refine ⟨?_, fun y hy => ?_⟩
    · show r.foldl max (max i j) ∈ _
      rcases List.mem_cons.mp h1 with h | h
      · rw [h]
        by_cases q : i ≤ j
        · rw [Int.max_eq_right q]; simp
        · rw [Int.max_eq_left (by omega)]; simp
      · exact List.mem_cons_of_mem _ (List.mem_cons_of_mem _ h)
    · show y ≤ r.foldl max (max i j)
      have h3 := h2 (max i j) List.mem_cons_self
      have q1 : i ≤ max i j := Int.le_max_left _ _
      have q2 : j ≤ max i j := Int.le_max_right _ _
      rcases List.mem_cons.mp hy with rfl | hy
      · omega
      · rcases List.mem_cons.mp hy with rfl | hy
        · omega
        · exact h2 y (List.mem_cons_of_mem _ hy)
theorem maxD_one {ns : List Int} (h : ns ≠ []) {m : Int} (h1 : m ∈ ns) (h2 : ∀ y, y ∈ ns → y ≤ m) : m = maxD ns := by
  cases ns with
  | nil => exact (h rfl).elim
  | cons i r =>
    obtain ⟨a, b⟩ := foldl_max r i
    have := h2 _ a
    have := b m h1
    show m = r.foldl max i
    omega
end
end DD

namespace DD
open PySem PySem.Spec PyProof.Rows L2 Evl
def calmE (en : En) : Bool := en.all fun s => !s.mut
def lc2Go (gd : D → En → Option En) (ft : En → Option Bool) (fi1 : En → Option (List D)) (gd1 : D → En → Option En) (ft1 : En → Option Bool) (fe : En → Option D) (vs1 : List Nat) (en : En) : List D → Option (List D)
  | [] => some []
  | d :: r => (gd d en).bind fun en1 => if calmE en1 = true then (ft en1).bind fun b => if b = true then (fi1 en1).bind fun ds1 => (lcGo gd1 ft1 fe (wipeE en1 vs1) ds1).bind fun ys => (lc2Go gd ft fi1 gd1 ft1 fe vs1 en r).map fun zs => ys ++ zs else lc2Go gd ft fi1 gd1 ft1 fe vs1 en r else none
def lLc2 (fi : En → Option (List D)) (gd : D → En → Option En) (ft : En → Option Bool) (fi1 : En → Option (List D)) (gd1 : D → En → Option En) (ft1 : En → Option Bool) (fe : En → Option D) (vs vs1 : List Nat) : En → Option (List D) :=
  fun en => (fi en).bind fun ds => (lc2Go gd ft fi1 gd1 ft1 fe vs1 (wipeE en vs) ds).bind fun out => if out.length ≤ lim then some out else none
section
variable {K : PySem.W.Frag} {X : Cx} {pos : Pos} {tg tg1 : Expr} {te : TE} {f : En → Option D} {tt tt1 : TT} {ft ft1 : En → Option Bool} {B H B0 : Hp} {H0 : HB}
theorem calm_up {B' H' : Hp} {σ : L2.St} {en : En} (h : EnOk K B0 H0 B H σ en) (hc : calmE en = true) (hb : Ex B B') (hx : Ext B0 H0 B' H') : EnOk K B0 H0 B' H' σ en := by
  have nm : ∀ (i : Nat) (s : Sl), en[i]? = some s → s.mut = true → False := fun i s e m => by
    have := List.all_eq_true.mp hc s (List.mem_of_getElem? e)
    rw [m] at this
    cases this
  refine ⟨hx, h.len, fun i s o a b => ?_, fun i j si sj oi oj q a _ _ _ f _ => (nm i si a f.mut).elim, fun i s o q a _ f => (nm i s a f.mut).elim, h.root, h.ro⟩
  have q := h.slot i s o a b
  cases s with
  | no => trivial
  | dat d => obtain ⟨v, q1, q2⟩ := q; exact ⟨v, q1, q2.up hb⟩
  | ro t => trivial
  | _ => exact (nm i _ a rfl).elim
theorem cl_lc2 {wi wi1 : TI} {g g1 : TG} {fi fi1 : En → Option (List D)} {gd gd1 : D → En → Option En} {is is1 vs vs1 : List Nat} (hi : CI K wi fi) (hg : CG K g gd is) (ht : CT K tt ft) (hi1 : CI K wi1 fi1) (hg1 : CG K g1 gd1 is1) (ht1 : CT K tt1 ft1) (he : CE K te f)
    (hs : ∀ j ∈ is, j ∈ vs) (hs1 : ∀ j ∈ is1, j ∈ vs1) : CL K (tLc2 wi g tt wi1 g1 tt1 te vs vs1) (lLc2 fi gd ft fi1 gd1 ft1 f vs vs1) := fun B0 H0 B H σ en out hE e Q k => by
  obtain ⟨ds, e1, e⟩ := obind e
  obtain ⟨out', e2, e⟩ := obind e
  obtain ⟨hlim, rfl⟩ := oite e
  refine hi B0 H0 B H σ en ds hE e1 _ fun J B1 H1 x1 W => ?_
  intro Dl hD
  have hE1 := hE.up x1
  -- what stands between two items of the outer walk
  let Nx : List D → Hp → Prop := fun rest H' => ∃ B' vs' acc, Ext B1 H1 B' H' ∧ B' Dl = none ∧ H' Dl = some (.lst vs') ∧ RpAll K B' vs' acc ∧ acc ++ rest = out'
  refine ⟨fun i m H' => m = ds.length - i ∧ i ≤ ds.length ∧ ∃ rest, lc2Go gd ft fi1 gd1 ft1 f vs1 (wipeE en vs) (ds.drop i) = some rest ∧ Nx rest H',
    ⟨ds.length, by simp, Nat.zero_le _, out', e2, B1, [], [], Ext.newM x1.bh hD, fresh_back x1.bh hD, upd_same, .nil, rfl⟩, ?_⟩
  rintro i m H' ⟨rfl, hi', rest, hgo, B', vs', acc, x2, hb, hp, r, hout⟩
  by_cases hlt : i < ds.length
  · have hd : ds[i]? = some ds[i] := List.getElem?_eq_getElem hlt
    rw [List.drop_eq_getElem_cons hlt] at hgo
    obtain ⟨en1, gg1, hgo⟩ := obind hgo
    by_cases hcalm : calmE en1 = true
    · rw [if_pos hcalm] at hgo
      obtain ⟨b, gg2, hgo⟩ := obind hgo
      -- the rest behind this item
      obtain ⟨rest2, hrest2⟩ : ∃ rest2, lc2Go gd ft fi1 gd1 ft1 f vs1 (wipeE en vs) (ds.drop (i + 1)) = some rest2 := by
        cases b with
        | true =>
          rw [if_pos rfl] at hgo
          obtain ⟨ds1, _, hgo⟩ := obind hgo
          obtain ⟨ys, _, hgo⟩ := obind hgo
          obtain ⟨zs, h, _⟩ := omap hgo
          exact ⟨zs, h⟩
        | false => rw [if_neg Bool.false_ne_true] at hgo; exact ⟨rest, hgo⟩
      refine .inr ⟨W.go i H' _ (x2.bb.trans x2.bh) hd, Nx rest2, fun H'' q => ⟨ds.length - (i + 1), by omega, rfl, hlt, rest2, hrest2, q⟩, fun v H2 y => ?_⟩
      obtain ⟨B2, x3, r2⟩ := W.yl i B' H' _ v H2 x2.bb x2.bh hd y
      have hE2 := (hE1.up (x2.trans x3)).wipe vs
      refine hg B0 H0 B2 H2 _ _ v _ en1 hE2 r2 gg1 _ fun σ2 B3 H3 x4 hE3 l3 k3 => ⟨wipe_same l3 k3 hs, ?_⟩
      refine ht B0 H0 B3 H3 σ2 en1 b hE3 gg2 _ fun B4 H4 x5 => ?_
      have x6 := (x3.trans x4).trans x5
      have keep : B4 Dl = none := (x6.st Dl (ne_some hp)).trans hb
      have hE4 := hE3.up x5
      cases b with
      | true =>
        rw [if_pos rfl] at hgo ⊢
        obtain ⟨ds1, gg3, hgo⟩ := obind hgo
        obtain ⟨ys, gg4, hgo⟩ := obind hgo
        obtain ⟨zs, gg5, rfl⟩ := omap hgo
        rw [hrest2] at gg5
        cases gg5
        refine hi1 B0 H0 B4 H4 σ2 en1 ds1 hE4 gg3 _ fun J1 B5 H5 x7 W1 => ?_
        have hE5 := hE4.up x7
        have x8 := x2.trans (x6.trans x7)
        have keep5 : B5 Dl = none := (x7.st Dl (ne_some (x6.hh _ _ hp))).trans keep
        refine ⟨fun j k' H'' => k' = ds1.length - j ∧ j ≤ ds1.length ∧ ∃ B'' vs'' acc'' rest1, Ext B1 H1 B'' H'' ∧ Ex B5 B'' ∧ B'' Dl = none ∧ H'' Dl = some (.lst vs'') ∧ RpAll K B'' vs'' acc'' ∧ lcGo gd1 ft1 f (wipeE en1 vs1) (ds1.drop j) = some rest1 ∧ acc'' ++ (rest1 ++ rest2) = out',
          ⟨ds1.length, by simp, Nat.zero_le _, B5, vs', acc, ys, x8, Ex.refl _, keep5, x7.hh _ _ (x6.hh _ _ hp), r.up (x6.bb.trans x7.bb), gg4, hout⟩, ?_⟩
        rintro j k' H6 ⟨rfl, hj', B6, vs6, acc6, rest1, x9, hx, hb6, hp6, r6, hgo1, hout6⟩
        by_cases hjl : j < ds1.length
        · have hd1 : ds1[j]? = some ds1[j] := List.getElem?_eq_getElem hjl
          rw [List.drop_eq_getElem_cons hjl] at hgo1
          obtain ⟨en2, gg6, hgo1⟩ := obind hgo1
          obtain ⟨b1, gg7, hgo1⟩ := obind hgo1
          refine .inr ⟨W1.go j H6 _ (hx.trans x9.bh) hd1, fun H'' => ∃ B'' vs'' acc'' rest1, Ext B1 H1 B'' H'' ∧ Ex B5 B'' ∧ B'' Dl = none ∧ H'' Dl = some (.lst vs'') ∧ RpAll K B'' vs'' acc'' ∧ lcGo gd1 ft1 f (wipeE en1 vs1) (ds1.drop (j + 1)) = some rest1 ∧ acc'' ++ (rest1 ++ rest2) = out',
            fun H'' q => ⟨ds1.length - (j + 1), by omega, rfl, hjl, q⟩, fun v7 H7 y7 => ?_⟩
          obtain ⟨B7, x10, r7⟩ := W1.yl j B6 H6 _ v7 H7 hx x9.bh hd1 y7
          have hE7 : EnOk K B0 H0 B7 H7 (L2.wipe σ2 vs1) (wipeE en1 vs1) := (calm_up hE5 hcalm (hx.trans x10.bb) (hE1.ext.trans (x9.trans x10))).wipe vs1
          refine hg1 B0 H0 B7 H7 _ _ v7 _ en2 hE7 r7 gg6 _ fun σ3 B8 H8 x11 hE8 l8 k8 => ⟨wipe_same l8 k8 hs1, ?_⟩
          refine ht1 B0 H0 B8 H8 σ3 en2 b1 hE8 gg7 _ fun B9 H9 x12 => ?_
          have x13 := (x10.trans x11).trans x12
          have keep9 : B9 Dl = none := (x13.st Dl (ne_some hp6)).trans hb6
          cases b1 with
          | true =>
            rw [if_pos rfl] at hgo1 ⊢
            obtain ⟨y', gg8, hgo1⟩ := obind hgo1
            obtain ⟨ys1, gg9, rfl⟩ := omap hgo1
            refine he B0 H0 B9 H9 σ3 en2 y' (hE8.up x12) gg8 _ fun u B10 H10 x14 r10 => ?_
            have hp10 := x14.hh _ _ (x13.hh _ _ hp6)
            have hb10 : B10 Dl = none := (x14.st Dl (ne_some (x13.hh _ _ hp6))).trans keep9
            have x15 := x9.trans (x13.trans x14)
            have hz : vs6.length ≤ lim := by
              have := congrArg List.length hout6
              rw [List.length_append] at this
              rw [r6.len]
              omega
            refine ⟨vs6, hp10, lim_lt hz, B10, vs6 ++ [u], acc6 ++ [y'], ys1, ⟨x15.bb, Ex.mut x15.bh hb10, fun a o q => ?_, x15.st⟩, hx.trans (x13.bb.trans x14.bb), hb10, upd_same, (r6.up (x13.bb.trans x14.bb)).app (.cons r10 .nil), gg9, by rw [List.append_assoc]; exact hout6⟩
            rw [upd_ne (ne_of_none q hD)]
            exact x15.hh a o q
          | false =>
            rw [if_neg Bool.false_ne_true] at hgo1 ⊢
            exact ⟨B9, vs6, acc6, rest1, x9.trans x13, hx.trans x13.bb, keep9, x13.hh _ _ hp6, r6.up x13.bb, hgo1, hout6⟩
        · have hj2 : j = ds1.length := by omega
          subst hj2
          rw [List.drop_length] at hgo1
          cases hgo1
          exact .inl ⟨W1.stop _ H6 (hx.trans x9.bh) (Nat.le_refl _), B6, vs6, acc6, x9, hb6, hp6, r6, hout6⟩
      | false =>
        rw [if_neg Bool.false_ne_true] at hgo ⊢
        rw [hrest2] at hgo
        cases hgo
        exact ⟨B4, vs', acc, x2.trans x6, keep, x6.hh _ _ hp, r.up x6.bb, hout⟩
    · rw [if_neg hcalm] at hgo
      cases hgo
  · have hi2 : i = ds.length := by omega
    subst hi2
    refine .inl ⟨W.stop _ H' (x2.bb.trans x2.bh) (Nat.le_refl _), ?_⟩
    rw [List.drop_length] at hgo
    cases hgo
    rw [List.append_nil] at hout
    subst hout
    exact k Dl vs' B' H' (x1.trans x2) (fresh_back x1.hh hD) hb hp r
theorem dl_lc2 {elt iter iter1 : Expr} {ifs ifs1 : List Expr} {scope : Scope} {own : List (Str × Nat)} {vs1 : List Nat} {wi wi1 : TI} {g g1 : TG} {fi fi1 : En → Option (List D)} {gd gd1 : D → En → Option En} {is is1 : List Nat} (hc : X.calm = true) (hN : X.N.Nodup) (hi : DI X tg iter wi fi) (ok : BlkOk X.N X.env.scope scope own)
    (hg : ∀ (s : Shared) (H : Hp) (C : Addr) (cl : List (Str × Addr)) (fp : List Addr), DG (X.blk s H scope (compEnvC scope cl C X.env) fp) tg g gd is) (ht : ∀ (s : Shared) (H : Hp) (C : Addr) (cl : List (Str × Addr)) (fp : List Addr), DTs (X.blk s H scope (compEnvC scope cl C X.env) fp) ifs tt ft)
    (hi1 : ∀ (s : Shared) (H : Hp) (C : Addr) (cl : List (Str × Addr)) (fp : List Addr), DI (X.blk s H scope (compEnvC scope cl C X.env) fp) tg1 iter1 wi1 fi1)
    (hg1 : ∀ (s : Shared) (H : Hp) (C : Addr) (cl : List (Str × Addr)) (fp : List Addr), DG (X.blk s H scope (compEnvC scope cl C X.env) fp) tg1 g1 gd1 is1) (ht1 : ∀ (s : Shared) (H : Hp) (C : Addr) (cl : List (Str × Addr)) (fp : List Addr), DTs (X.blk s H scope (compEnvC scope cl C X.env) fp) ifs1 tt1 ft1)
    (he : ∀ (s : Shared) (H : Hp) (C : Addr) (cl : List (Str × Addr)) (fp : List Addr), DE (X.blk s H scope (compEnvC scope cl C X.env) fp) elt te f) (hv : ∀ i ∈ vs1, i ∈ own.map (·.2) := by decide) (hsub : ∀ j ∈ is, j ∈ own.map (·.2) := by decide) (hsub1 : ∀ j ∈ is1, j ∈ vs1 := by decide)
    (hs : ∀ x, foldedSetIterable iter X.env x = pure x := by intro _; rfl) (hs1 : ∀ env x, foldedSetIterable iter1 env x = pure x := by intro _ _; rfl) :
    DL X (.ListComp elt [⟨tg, iter, ifs, 0⟩, ⟨tg1, iter1, ifs1, 0⟩] scope pos) (tLc2 wi g tt wi1 g1 tt1 te (own.map (·.2)) vs1) (lLc2 fi gd ft fi1 gd1 ft1 f (own.map (·.2)) vs1) :=
  ⟨pe_lc2 hc hN hi.p ok hv (fun s H C cl fp => (hg s H C cl fp).p) (fun s H C cl fp => (ht s H C cl fp).p) (fun s H C cl fp => (hi1 s H C cl fp).p) (fun s H C cl fp => (hg1 s H C cl fp).p) (fun s H C cl fp => (ht1 s H C cl fp).p) (fun s H C cl fp => (he s H C cl fp).p) hs hs1,
    cl_lc2 (K := X.K) hi.c (hg {} (fun _ => none) 0 [] []).c (ht {} (fun _ => none) 0 [] []).c (hi1 {} (fun _ => none) 0 [] []).c (hg1 {} (fun _ => none) 0 [] []).c (ht1 {} (fun _ => none) 0 [] []).c (he {} (fun _ => none) 0 [] []).c hsub hsub1⟩
end
end DD

namespace DD
open PySem PySem.Spec PyProof.Rows L2 Evl
theorem pyMax_int : ∀ (r : List Int) (i : Int), PySem.W.maxD (.int i) (r.map PyData.int) = .int (r.foldl max i)
  | [], i => rfl
  | j :: r, i => by
    have ih := pyMax_int r (max i j)
    show PySem.W.maxD (if PySem.W.dataLt (.int i) (.int j) = true then .int j else .int i) (r.map PyData.int) = _
    rw [PySem.W.dataLt_int]
    by_cases h : i < j
    · rw [decide_eq_true h, if_pos rfl]
      rw [show max i j = j by omega] at ih
      rw [show (j :: r).foldl max i = r.foldl max (max i j) from rfl, show max i j = j by omega]
      exact ih
    · rw [decide_eq_false h, if_neg Bool.false_ne_true]
      rw [show max i j = i by omega] at ih
      rw [show (j :: r).foldl max i = r.foldl max (max i j) from rfl, show max i j = i by omega]
      exact ih
def rMaxDef (K : PySem.W.Frag) (n : Int) : List V → List V → Hp → VK → Prop := fun vs zs H Q => ∃ (a : Addr) (ns : List Int), vs = [V.ref a] ∧ zs = [.int n] ∧ SqL K H a (ns.map V.int) ∧ Q (.int (if ns = [] then n else maxD ns)) H
theorem reads_ints {h : Heap} : ∀ {vs : List Value} {ns : List Int}, Vals (ns.map V.int) vs → ReadsAll h vs (ns.map PyData.int) []
  | _, [], r => by cases r; exact .nil
  | _, n :: ns, r => by
    cases r with
    | cons a b =>
      obtain ⟨t, rfl⟩ := a
      exact ReadsAll.cons (as := []) (bs := []) (.int n t) (reads_ints b)
theorem cr_maxDef {X : Cx} {n : Int} (hc : X.calm = true) (hu : X.A.units + 64 < cLine) : CallRK X (.builtin "max") [Str.ofString "default"] (rMaxDef X.K n) := by
  intro pins s σ H vs zs us ws Q I r rz h
  obtain ⟨a, ns, rfl, rfl, hs, q⟩ := h
  obtain ⟨its, rv, hl, _⟩ := I.list hs
  obtain rfl := Vals.ref1 r
  obtain ⟨w1, rfl, t, rfl⟩ := vals1 rz
  have dep : ∀ ns : List Int, PyData.depthAll (ns.map PyData.int) ≤ 1 := fun ns => by
    induction ns with
    | nil => simp [PyData.depthAll]
    | cons n ns ih =>
      rw [List.map_cons]
      simp only [PyData.depthAll, PyData.depth]
      omega
  refine PySem.W.max_list_default (I.ok.hd hc) hl.isList (reads_ints rv) ⟨fun x hx y hy => ?_, fun x hx => ?_⟩ (by have := dep ns; omega) (fun e h' tk hk => ?_) (fun y ys i v h' tk bs e hv rd hk => ?_)
  · obtain ⟨i, _, rfl⟩ := List.mem_map.mp hx
    obtain ⟨j, _, rfl⟩ := List.mem_map.mp hy
    rfl
  · obtain ⟨i, _, rfl⟩ := List.mem_map.mp hx
    exact fun z => nomatch z
  · have : ns = [] := by
      cases ns with
      | nil => rfl
      | cons => cases e
    rw [if_pos this] at q
    exact ⟨.int n, H, I.kept hk, ⟨t, rfl⟩, q⟩
  · cases ns with
    | nil => cases e
    | cons m ms =>
      rw [List.map_cons] at e
      obtain ⟨rfl, rfl⟩ := List.cons.inj e
      rw [pyMax_int] at rd
      rw [if_neg (fun z => nomatch z)] at q
      cases rd with
      | int _ t => exact ⟨.int _, H, I.kept hk, ⟨t, rfl⟩, q⟩
def dMaxDef (n : Int) (fa : En → Option D) : En → Option D := fun en => (fa en).bind fun
  | .lst ds => (intsOf ds).map fun ns => .int (if ns = [] then n else maxD ns)
  | _ => none
section
variable {K : PySem.W.Frag} {X : Cx} {pos : Pos} {a : Expr} {ta : TE} {fa : En → Option D}
theorem de_maxDef {k j : Nat} {n : Int} {p pf pk : Pos} {nm : Option Str} (hK : X.K = K) (hc : X.calm = true) (hr : Room k X.A) (hg : Gl X "max") (hm : X.mg "max" = none) (ha : DE X a ta fa)
    (he : backTo pos (starEach (a :: []) X.env) = (false, eval a X.env) :: backTo pos (starEach [] X.env) := by rfl) (hs : starEach [a] X.env = (false, eval a X.env) :: starEach [] X.env := by rfl) (hpl : (backTo pos (starEach (a :: []) X.env)).any (·.1) = false := by rfl)
    (hall : (backToKw pos (keywordEach [⟨nm, .Constant (.int n) j pf, pk⟩] X.env)).all (·.1.isSome) = true := by rfl) (hnone : (backToKw pos (keywordEach [⟨nm, .Constant (.int n) j pf, pk⟩] X.env)).any (·.1.isNone) = false := by rfl) (hks : (backToKw pos (keywordEach [⟨nm, .Constant (.int n) j pf, pk⟩] X.env)).filterMap (·.1) = [Str.ofString "default"] := by rfl) :
    DE X (.Call (.Name "max" p) [a] [⟨nm, .Constant (.int n) j pf, pk⟩] pos) (tCKw (rMaxDef K n) (tCons ta tNil) (tCons (tC (.int n)) tNil)) (dMaxDef n fa) := by
  subst hK
  exact ⟨pe_callBK (cr_maxDef hc hr.units) hg hm (by decide +kernel) (pa_cons ha.p pa_nil hs) (pk_cons pe_int pk_nil) (by decide) (by decide) he hpl hall hnone hks, fun B0 H0 B H σ en d hE e Q k => by
    obtain ⟨x, e1, e⟩ := obind e
    refine ha.c B0 H0 B H σ en x hE e1 _ fun v B1 H1 x1 r => ?_
    split at e
    · obtain ⟨ns, e2, rfl⟩ := omap e
      cases r with
      | lst s q =>
        have := q.ints e2
        subst this
        exact ⟨_, ns, rfl, rfl, ex_l x1.bh s, k _ B1 H1 x1 (.int _)⟩
    · cases e⟩
end
end DD

namespace DD
open PySem PySem.Spec PyProof.Rows L2 Evl
section
variable {K : PySem.W.Frag} {X : Cx}
end
end DD

namespace DD
open PySem PySem.Spec PyProof.Rows L2 Evl
@[simp] def Sl.thaw0 (s : Sl) : Sl := match s.thaw with
  | .ro _ => .no
  | s => s
section
variable {K : PySem.W.Frag} {X : Cx} {tg : Expr} {te t1 t2 t3 : TE} {f1 f2 f3 : En → Option D} {B H B0 : Hp} {H0 : HB}
structure Grid (K : PySem.W.Frag) (B H Hb : Hp) (qs : List Addr) (rows : List (List D)) : Prop where
  len : qs.length = rows.length
  nd : qs.Nodup
  bn : ∀ q ∈ qs, B q = none ∧ Hb q = none
  at_ : ∀ (j : Nat) (q : Addr) (r : List D), qs[j]? = some q → rows[j]? = some r → ∃ vs, H q = some (.lst vs) ∧ RpAll K B vs r
theorem Grid.up {B' H' Hb : Hp} {qs : List Addr} {rows : List (List D)} (g : Grid K B H Hb qs rows) (x : Ext B H B' H') : Grid K B' H' Hb qs rows := by
  have hh : ∀ q ∈ qs, ∃ vs, H q = some (.lst vs) := fun q hq => by
    obtain ⟨j, hj⟩ := List.getElem?_of_mem hq
    have hl : j < rows.length := by rw [← g.len]; exact (List.getElem?_eq_some_iff.mp hj).1
    obtain ⟨vs, h, _⟩ := g.at_ j q _ hj (List.getElem?_eq_getElem hl)
    exact ⟨vs, h⟩
  refine ⟨g.len, g.nd, fun q hq => ⟨?_, (g.bn q hq).2⟩, fun j q r h1 h2 => ?_⟩
  · obtain ⟨vs, h⟩ := hh q hq
    exact (x.st q (ne_some h)).trans (g.bn q hq).1
  · obtain ⟨vs, a, b⟩ := g.at_ j q r h1 h2
    exact ⟨vs, x.hh _ _ a, b.up x.bb⟩
theorem Grid.data {Hb : Hp} {qs : List Addr} {rows : List (List D)} (hE : Ex B H) (g : Grid K B H Hb qs rows) {p : Addr} (hp : H p = some (.lst (qs.map V.ref))) (hbp : B p = none) :
    ∃ B', Ex B B' ∧ Ex B' H ∧ Rp K B' (.ref p) (.lst (rows.map .lst)) ∧ ∀ q, q ≠ p → q ∉ qs → B' q = B q := by
  classical
  let B' : Hp := fun q => if q = p ∨ q ∈ qs then H q else B q
  have e1 : Ex B B' := fun q o e => by
    show (if q = p ∨ q ∈ qs then H q else B q) = some o
    by_cases h : q = p ∨ q ∈ qs
    · rw [if_pos h]; exact hE q o e
    · rw [if_neg h]; exact e
  have e2 : Ex B' H := fun q o e => by
    have e : (if q = p ∨ q ∈ qs then H q else B q) = some o := e
    by_cases h : q = p ∨ q ∈ qs
    · rw [if_pos h] at e; exact e
    · rw [if_neg h] at e; exact hE q o e
  have eq : ∀ q, (q = p ∨ q ∈ qs) → B' q = H q := fun q h => if_pos h
  have rows_rp : ∀ (qs' : List Addr) (rows' : List (List D)), qs'.length = rows'.length → (∀ q ∈ qs', q ∈ qs) → (∀ (j : Nat) (q : Addr) (r : List D), qs'[j]? = some q → rows'[j]? = some r → ∃ vs, H q = some (.lst vs) ∧ RpAll K B vs r) → RpAll K B' (qs'.map V.ref) (rows'.map D.lst) := by
    intro qs'
    induction qs' with
    | nil => intro rows' hl _ _; cases rows' with
      | nil => exact .nil
      | cons => cases hl
    | cons q qs' ih =>
      intro rows' hl hm ha
      cases rows' with
      | nil => cases hl
      | cons r rows' =>
        obtain ⟨vs, h1, h2⟩ := ha 0 q r rfl rfl
        refine .cons (.lst (SqL.of ((eq q (.inr (hm q List.mem_cons_self))).trans h1)) (h2.up e1)) (ih rows' (by simpa using hl) (fun z hz => hm z (List.mem_cons_of_mem _ hz)) fun j q r a b => ha (j + 1) q r (by simpa using a) (by simpa using b))
  exact ⟨B', e1, e2, .lst (SqL.of ((eq p (.inl rfl)).trans hp)) (rows_rp qs rows g.len (fun _ h => h) g.at_), fun q h1 h2 => if_neg (fun z => z.elim h1 h2)⟩
end
end DD

namespace ZZ
open PySem PySem.Spec PyProof.Rows L2
def IteT (K : PySem.W.Frag) (a : Addr) (n : Nat) (k : Int) : It :=
  ⟨fun i H => ∃ (xs : List V) (x : V), SqT K H a xs ∧ xs.length = n ∧ xs[i]? = some x, fun i H v H' => ∃ T x, v = .ref T ∧ H T = none ∧ H' = upd H T (.tup [.int (k + (i : Nat)), x]) ∧ ∀ xs, SqT K H a xs → xs[i]? = some x,
    fun i H => ∃ xs : List V, SqT K H a xs ∧ xs.length = n ∧ n ≤ i⟩
theorem turn_enumT {P : Program} {w : World} {K : PySem.W.Frag} {elts : List Expr} {kk : Nat} {tpos : Pos} {a e it : Addr} {n : Nat} {k : Int} (hai : a ≠ it) (hne : e ≠ it) (hea : e ≠ a) :
    Turn P w K (.Tuple elts kk tpos) (IteT K a n k) [e, it] e (fun i h => (∃ old, IsEnum h e it (k + ((i : Nat) : Int)) old) ∧ h.IsTupleIter it a i ∧ i ≤ n) where
  mem := by simp
  obj := fun i h st b hb => by
    obtain ⟨⟨old, he⟩, ⟨o, ho, hc, hd⟩, _⟩ := st
    have e' : b = e ∨ b = it := by simpa using hb
    rcases e' with z | z
    · rw [z]; exact ⟨_, he, fun v q => nomatch q⟩
    · rw [z]; exact ⟨o, ho, fun v q => by rw [hd] at q; cases q⟩
  keep := fun i h h' st k => let ⟨⟨old, he⟩, hi, hn⟩ := st; ⟨⟨old, k e (by simp) _ he⟩, hi.at fun o q => k it (by simp) o q, hn⟩
  item := by
    intro X hP hw hK hc i pins s σ H E I hf st hg
    subst hP hw hK
    obtain ⟨⟨old, he⟩, hit, hn⟩ := st
    obtain ⟨xs, x, hq, hln, hx⟩ := hg
    obtain ⟨its, rv, p, hz⟩ := I.tuple hq
    obtain ⟨u, hu, ru⟩ := rv.get hx
    have hel : e < s.heap.objs.size := Heap.lt_size he
    have hil : it < s.heap.objs.size := by obtain ⟨_, q, _⟩ := hit; exact Heap.lt_size q
    have hlt : i < its.toArray.size := by
      rw [List.size_toArray]
      exact (List.getElem?_eq_some_iff.mp hu).1
    refine wpAny_pyNext_enum_itemC (Draws.tuple (A := X.A.in1) (show X.A.in1.handled = none from I.ok.hd hc) it a hai its.toArray) he ⟨hit, p⟩ hlt hne (by simp [hne, hea]) fun y h' tk hy ho hit' hT hsz hk => ?_
    have hy : its.toArray[i]? = some y := hy
    have : y = u := by
      have e1 : its.toArray[i]? = some u := by simpa using hu
      rw [e1] at hy
      injection hy with hy
      exact hy.symm
    subst this
    refine ⟨_, rfl, wpAny_letOwnedTupleGo_enum (s := { s with heap := h', toks := tk + 1 }) ho fun h'' he' sb => ?_⟩
    have hT2 : h''.get? s.heap.objs.size = some { cls := .type "tuple", data := .seq #[.int (k + (i : Nat)) tk, y] } := (sb.2 _ (Nat.ne_of_gt hel)).trans hT
    have new : ObjOk X.prog X.w (upd H s.heap.objs.size (.tup [.int (k + (i : Nat)), x])) h'' s.heap.objs.size (.tup [.int (k + (i : Nat)), x]) :=
      ⟨by show 2 ≤ sizeLine; decide, [.int (k + (i : Nat)) tk, y], .cons ⟨_, rfl⟩ (.cons ru .nil), ⟨_, hT2, rfl, _, rfl⟩⟩
    have I1 : Inv X pins σ (upd H s.heap.objs.size (.tup [.int (k + (i : Nat)), x])) { s with heap := h'', toks := tk + 1 } :=
      I.turnedNew (ch := [e, it]) (fun b ob hb q => (sb.2 b (fun z => hb (by simp [z]))).trans (hk b ob (fun z => hb (by simp [z])) (fun z => hb (by simp [z])) q)) hf (Nat.le_refl _) new
    refine ⟨.ref s.heap.objs.size, _, I1, rfl, ⟨_, x, rfl, I.hok.fresh (Nat.le_refl _), rfl, fun ys hy => by rw [I.tuple_inj hy hq]; exact hx⟩, ⟨⟨y, ?_⟩, hit'.1.at fun o q => (sb.2 it (Ne.symm hne)).trans q, ?_⟩, fun b hb => ?_⟩
    · have e1 : k + ((i + 1 : Nat) : Int) = k + (i : Int) + 1 := by omega
      rw [e1]; exact he'
    · have := (List.getElem?_eq_some_iff.mp hx).1
      omega
    · have hb' : b < s.heap.objs.size := by
        have e' : b = e ∨ b = it := by simpa using hb
        rcases e' with z | z
        · rw [z]; exact hel
        · rw [z]; exact hil
      rw [upd_ne (Nat.ne_of_lt hb')]
      exact (hf b hb).1
  done := by
    intro X hP hw hK hc i pins s σ H E I hf st hg
    subst hP hw hK
    obtain ⟨⟨old, he⟩, hit, hn⟩ := st
    obtain ⟨xs, hq, hln, hx⟩ := hg
    obtain ⟨its, rv, p, hz⟩ := I.tuple hq
    obtain ⟨f0, f1, f2, f3, f4, f5⟩ := hf it (by simp)
    have hl := rv.length
    have hi : i = its.toArray.size := by rw [List.size_toArray]; omega
    subst hi
    exact wpAny_pyNext_enum_endD (Draws.tuple (A := X.A.in1) (show X.A.in1.handled = none from I.ok.hd hc) it a hai its.toArray) he ⟨hit, p⟩ fun h' eb => ⟨rfl, I.turned (t' := s.toks) (fun b o hb q => eb b o hb q) f0 f1 f3 f4 f5⟩
  self := fun A i s Q E st h => let ⟨⟨_, he⟩, _⟩ := st; wpAny_pyIter_enum he h
theorem meets_enumerate_new1 {v : Value} {o : Obj} {H : Heap → Prop} (B : Begins v o H) :
    Meets (Builtin.«enumerate.__new__» ⟨[.type "enumerate", v], []⟩) (fun _ R s => H s.heap ∧
      R (.ok (.ret (.ref (s.heap.push o).objs.size))) { s with heap := (s.heap.push o).push { cls := .type "enumerate", data := .fields #[.none, .bool false, .ref s.heap.objs.size, rawInt 0, .none, .none] } }) :=
  .of_wp fun prog w A R s h => by
    obtain ⟨hp, g, d, tk, os⟩ := s; obtain ⟨h1, h⟩ := h
    have hsub := sub_enumerate
    have q1 : ∀ {A' : Around} {E : Value → Shared → Prop} {Q : Value → Shared → Prop}, Q (.ref hp.objs.size) ⟨hp.push o, g, d, tk, os⟩ → wpAny (model prog w) A' (pyIter v) Q E ⟨hp, g, d, tk, os⟩ :=
      fun q => B.iter prog w _ _ ⟨hp, g, d, tk, os⟩ _ h1 q
    wp_walk using q1
    refine wpAny_stack_any fun st => wpAny_pure ?_
    split
    · rename_i c _ _ _ _ _
      cases (c == Value.type "enumerate")
      · wp_walk using q1
        exact ⟨_, rfl, h⟩
      · wp_walk using q1
        exact ⟨_, rfl, h⟩
    · wp_walk using q1
      exact ⟨_, rfl, h⟩
theorem enum_begins1 {prog : Program} {w : World} {A : Around} {E : Value → Shared → Prop} {s : Shared} {v : Value} {o : Obj} {H : Heap → Prop} {Q : Value → Shared → Prop} (B : Begins v o H) (h1 : H s.heap)
    (h : ∀ h', IsEnum h' (s.heap.objs.size + 1) s.heap.objs.size 0 .none → h'.get? s.heap.objs.size = some o → h'.objs.size = s.heap.objs.size + 2 →
      (∀ b o, s.heap.get? b = some o → h'.get? b = some o) → Q (.ref (s.heap.objs.size + 1)) { s with heap := h' }) :
    wpAny (model prog w) A (call (.type "enumerate") [v]) Q E s := by
  refine callType_new F.called_enumerate (by decide) (F.typeCall_enumerate_1 _) (F.newCall_enumerate_1 _) (fun obj => F.args_object_init_2 obj _) F.entry_enumerate_new
    (meets_enumerate_new1 B) ⟨h1, ?_⟩
  have hz : (s.heap.push o).objs.size = s.heap.objs.size + 1 := Heap.size_push ..
  show _ ∧ _
  rw [hz]
  have he : IsEnum ((s.heap.push o).push { cls := .type "enumerate", data := .fields #[.none, .bool false, .ref s.heap.objs.size, rawInt 0, .none, .none] }) (s.heap.objs.size + 1) s.heap.objs.size 0 .none := by
    have := Heap.get?_push_size (s.heap.push o) (o := { cls := .type "enumerate", data := .fields #[.none, .bool false, .ref s.heap.objs.size, rawInt 0, .none, .none] }) rfl
    rw [hz] at this; exact this
  exact ⟨⟨_, he, rfl⟩, h _ he (Heap.get?_push_of_some _ (Heap.get?_push_size _ B.free)) (by rw [Heap.size_push, hz]) fun b o x => Heap.get?_push_of_some _ (Heap.get?_push_of_some _ x)⟩
def iEnT (K : PySem.W.Frag) (ta : TA) : TI := fun σ H R => ta σ H fun vs H1 => ∃ a xs, vs = [.ref a] ∧ SqT K H1 a xs ∧ R (IteT K a xs.length 0) H1
theorem pi_enumT {X : Cx} {e : Expr} {ta : TA} {p pos tpos : Pos} {elts : List Expr} {kk : Nat} (hg : Gl X "enumerate") (hm : X.mg "enumerate" = none) (ha : PA X [e] ta) (hs : starEach [e] X.env = [(false, eval e X.env)] := by rfl) :
    PI X (.Tuple elts kk tpos) (.Call (.Name "enumerate" p) [e] [] pos) (iEnT X.K ta) := by
  refine ⟨fun pins s σ H R I h => ?_⟩
  refine Call_ (ld_blt I hg hm boot_enumerate (PyProof.Rows.callWith_type1 (thn (ha.run pos pins s σ H _ I h) fun us s2 ⟨vs, H2, I2, r1, q1⟩ => ?_) hs rfl))
  obtain ⟨a, xs, ex, hq, q⟩ := q1
  subst ex
  cases r1 with
  | cons r rr =>
    cases rr
    cases r
    obtain ⟨its, rv, p', hz⟩ := I2.tuple hq
    obtain ⟨o, ho, _⟩ := id p'
    have hal : a < s2.heap.objs.size := Heap.lt_size ho
    refine enum_begins1 (begins_tuple a its.toArray) p' fun h' he hit hsz hk => wpAny_pyIter_enum he ?_
    have I3 : Inv X pins σ H2 { s2 with heap := h' } := I2.kept (t' := s2.toks) hk
    have T := turn_enumT (P := X.prog) (w := X.w) (K := X.K) (elts := elts) (kk := kk) (tpos := tpos) (a := a) (e := s2.heap.objs.size + 1) (it := s2.heap.objs.size) (n := xs.length) (k := 0) (Nat.ne_of_lt hal) (Nat.succ_ne_self _) (Nat.ne_of_gt (Nat.lt_of_lt_of_le hal (Nat.le_succ _)))
    refine ⟨s2.heap.objs.size + 1, [s2.heap.objs.size + 1, s2.heap.objs.size], _, _, H2, rfl, I3, T, ⟨⟨.none, he⟩, ⟨_, hit, rfl, rfl⟩, Nat.zero_le _⟩, fun b hb => ?_, q⟩
    have e' : b = s2.heap.objs.size + 1 ∨ b = s2.heap.objs.size := by simpa using hb
    have hle : s2.heap.objs.size ≤ b := by
      rcases e' with z | z
      · rw [z]; exact Nat.le_add_right _ _
      · rw [z]; exact Nat.le_refl _
    exact I2.fpOk hle (I2.hok.fresh hle)
def rCatS (K : PySem.W.Frag) : R2 := fun x y H Q => ∃ l b xs zs, x = .ref l ∧ y = .ref b ∧ SqL K H l xs ∧ SqL K H b zs ∧ xs.length + zs.length ≤ sizeLine ∧ ∀ p, H p = none → Q (.ref p) (upd H p (.lst (xs ++ zs)))
theorem op_catS {X : Cx} : OpR X (binaryOp .Add) (rCatS X.K) := by
  intro pins s σ H x y v u Q I rx ry h
  obtain ⟨l, b, xs, zs, rfl, rfl, hH, hB, hz, q⟩ := h
  cases rx
  cases ry
  obtain ⟨its, r, ⟨⟨cls, dd, data, sl⟩, n, ho, hc, _, hd⟩, hs⟩ := I.list hH
  obtain ⟨its2, r2, ⟨⟨cls2, dd2, data2, sl2⟩, n2, ho2, hc2, _, hd2⟩, hs2⟩ := I.list hB
  simp only at hc hd hc2 hd2
  subst hc hd hc2 hd2
  have l1 := r.length
  have l2 := r2.length
  refine concat_meets ⟨_, ho, rfl⟩ ⟨_, ho2, rfl⟩ noFill_list_add seq_list_add PySem.F.slot_list_add PySem.F.entry_list_add (PySem.F.args_list_add_2 _ _) (list_addW l b its.toArray its2.toArray n n2 dd dd2 sl sl2 (by simp; omega)) ⟨ho, ho2, ?_⟩
  have ea : its.toArray ++ its2.toArray = (its ++ its2).toArray := by simp
  rw [ea]
  exact ⟨.ref _, _, I.lnew (t' := s.toks) (r.append r2) (by rw [List.length_append]; omega), rfl, q _ I.fresh⟩
end ZZ
namespace DD
open PySem PySem.Spec PyProof.Rows L2 Evl
section
variable {K : PySem.W.Frag} {X : Cx} {pos : Pos} {tg a b c e : Expr} {ta tb tc te : TE} {fa fb fc f : En → Option D} {B B1 H B0 : Hp} {H0 : HB}
theorem kp_newL {Q : VK} {ds : List D} {vs : List V} (k : Kp K B H (.lst ds) Q) (hE : Ex B H) (r : RpAll K B vs ds) {p : Addr} (hp : H p = none) : Q (.ref p) (upd H p (.lst vs)) :=
  k _ _ _ (ext_keep (Ext.newM hE hp) hp (fresh_back hE hp) upd_same) (.lst (SqL.of upd_same) (r.up (Ex.new (fresh_back hE hp))))
def dCutA (fa : En → Option D) (fl fh : En → Option (Option Int)) : En → Option D := fun en => (fa en).bind fun x => (fl en).bind fun l => (fh en).bind fun h => match x with
  | .str z => if z.length ≤ lim then some (.str (cutS z l h)) else none
  | .tup ds => some (.tup (cutD ds l h))
  | .lst ds => some (.lst (cutD ds l h))
  | _ => none
def rSlAll (K : PySem.W.Frag) : V → Option Int → Option Int → Hp → VK → Prop := fun x lo hi H Q => rSlS x lo hi H Q ∨ (rSlA K x lo hi H Q ∨ rSlL K x lo hi H Q)
theorem sl_all : SlR X (rSlAll X.K) := sl_str.or (sl_tupA.or sl_list)
variable {lo hi : Option Expr} {tl th : TO} {fl fh : En → Option (Option Int)}
theorem cut_whole {ds : List D} {l h : Option Int} (h1 : HT.sIx ds.length 0 l = 0) (h2 : HT.sIx ds.length ds.length h = ds.length) : cutD ds l h = ds := by
  unfold cutD
  rw [h1, h2, List.drop_zero, Nat.sub_zero, List.take_length]
theorem de_cutA {p2 : Pos} (hK : X.K = K) (ha : DE X a ta fa) (hl : DO X lo tl fl) (hh : DO X hi th fh) : DE X (.Subscript a (.Slice lo hi none p2) pos) (tSl (rSlAll K) ta tl th) (dCutA fa fl fh) := by
  subst hK
  exact ⟨pe_slice sl_all ha.p hl.p hh.p, fun B0 H0 B H σ en d hE e Q k => by
    obtain ⟨x, e1, e⟩ := obind e
    obtain ⟨l, e2, e⟩ := obind e
    obtain ⟨h, e3, e⟩ := obind e
    refine ha.c B0 H0 B H σ en x hE e1 _ fun v B1 H1 x1 r1 => ?_
    refine hl.c B0 H0 B1 H1 σ en l (hE.up x1) e2 _ fun B2 H2 x2 => ?_
    refine hh.c B0 H0 B2 H2 σ en h (hE.up (x1.trans x2)) e3 _ fun B3 H3 x3 => ?_
    have x4 := (x1.trans x2).trans x3
    have x23 := x2.bb.trans x3.bb
    split at e
    · obtain ⟨h1, rfl⟩ := oite e
      cases r1
      exact .inl ⟨_, rfl, lim_le h1, k _ B3 H3 x4 (.str _)⟩
    · cases e
      cases r1 with
      | tup s_ q =>
        have s := SqT.of (K := X.K) s_
        have hs := ex_t (x23.trans x3.bh) s
        have q3 := q.up x23
        refine .inr (.inl ⟨_, _, rfl, hs, fun w => ?_, fun w p hp => ?_⟩)
        · rw [q.len] at w
          rw [cut_whole w.1 w.2] at k
          exact k _ B3 H3 x4 (.tup (x23 _ _ s_) q3)
        · exact k _ _ _ (x4.trans (Ext.new x3.bh hp)) (.tup upd_same ((q3.cut l h).up (Ex.new (fresh_back x3.bh hp))))
    · cases e
      cases r1 with
      | lst s q =>
        refine .inr (.inr ⟨_, _, rfl, ex_l (x23.trans x3.bh) s, fun p hp => ?_⟩)
        exact kp_newL (K := X.K) (B := B3) (fun v B' H' x r => k v B' H' (x4.trans x) r) x3.bh ((q.up x23).cut l h) hp
    · cases e⟩
def gCatL : D → D → Option D
  | .lst xs, .lst ys => if xs.length + ys.length ≤ lim then some (.lst (xs ++ ys)) else none
  | _, _ => none
def gAddA (x y : D) : Option D := (gAdd x y).or (gCatL x y)
theorem od_catS : OpD K (ZZ.rCatS K) gCatL := fun B H x y dx dy d hE h1 h2 e Q k => by
  unfold gCatL at e
  split at e
  · obtain ⟨h, rfl⟩ := oite e
    cases h1 with
    | lst s q =>
      cases h2 with
      | lst s2 q2 => exact ⟨_, _, _, _, rfl, rfl, ex_l hE s, ex_l hE s2, by rw [q.len, q2.len]; exact lim_le h, fun p hp => kp_newL k hE (q.app q2) hp⟩
  · cases e
def rAddA (K : PySem.W.Frag) : R2 := fun x y H Q => rAddAll K x y H Q ∨ ZZ.rCatS K x y H Q
theorem walk_et {p : Addr} {vs : List V} {ds : List D} (s : SqT K B p vs) (r : RpAll K B vs ds) : WalkD K (ZZ.IteT K p vs.length 0) B (countD 0 ds) where
  go := fun i H d hE e => by
    obtain ⟨c, h1, rfl⟩ := countD_get e
    obtain ⟨v, h2, _⟩ := r.get i h1
    exact ⟨vs, v, ex_t hE s, rfl, h2⟩
  yl := fun i B1 H d x H' h1 h2 e y => by
    obtain ⟨c, h3, rfl⟩ := countD_get e
    obtain ⟨v, q1, q2⟩ := r.get i h3
    obtain ⟨T, u, rfl, hT, rfl, hy⟩ := y
    have := hy vs (ex_t (h1.trans h2) s)
    rw [q1] at this
    cases this
    exact ⟨_, Ext.new h2 hT, .tup upd_same ((RpAll.cons (.int _) (.cons (q2.up h1) .nil)).up (Ex.new (fresh_back h2 hT)))⟩
  stop := fun i H hE hl => by
    rw [countD_len, ← r.len] at hl
    exact ⟨vs, ex_t hE s, rfl, hl⟩
end
end DD

namespace ZZ
open PySem PySem.Spec PyProof.Rows L2
end ZZ
namespace DD
open PySem PySem.Spec PyProof.Rows L2 Evl
section
variable {K : PySem.W.Frag} {X : Cx} {pos : Pos} {e : Expr} {te : TE} {f : En → Option D} {B H : Hp}
end
end DD

namespace DD
open PySem PySem.Spec PyProof.Rows L2 Evl
section
variable {K : PySem.W.Frag} {X : Cx} {pos : Pos} {a b : Expr} {ta tb : TE} {fa fb : En → Option D}
def gCat0 : D → D → Option D
  | .tup i, .tup j => if i = [] ∧ j.length ≤ lim then some (.tup j) else none
  | _, _ => none
def gAddB (x y : D) : Option D := (gAddA x y).or (gCat0 x y)
theorem od_cat0 : OpD K (rCatA K) gCat0 := fun B H x y dx dy d hE h1 h2 e Q k => by
  unfold gCat0 at e
  split at e
  · rename_i i j
    obtain ⟨⟨rfl, hl⟩, rfl⟩ := oite e
    cases h1 with
    | tup s_ q =>
      have s := SqT.of (K := K) s_
      cases h2 with
      | tup s2_ q2 =>
        have s2 := SqT.of (K := K) s2_
        cases q
        refine ⟨_, _, _, _, rfl, rfl, ex_t hE s, ex_t hE s2, by rw [q2.len]; exact (by have := lim_le hl; simpa using this), fun _ => kp_flat k hE (.tup s2_ q2), fun h => absurd rfl h, fun h => absurd rfl h⟩
  · cases e
theorem de_addB (hK : X.K = K) (ha : DE X a ta fa) (hb : DE X b tb fb) : DE X (.BinOp a .Add b pos) (tOp (fun x y H Q => rAddA K x y H Q ∨ rCatA K x y H Q) ta tb) (d2 gAddB fa fb) := by
  subst hK
  exact de_bin ((op_addAll.or ZZ.op_catS).or op_catA) ((od_addAll.or od_catS).or od_cat0) ha hb
end
end DD

namespace DD
open PySem PySem.Spec PyProof.Rows L2 Evl
section
variable {K : PySem.W.Frag} {X : Cx} {pos : Pos} {tg a b c e : Expr} {ta tb tc te : TE} {fa fb fc f : En → Option D} {B B1 H B0 : Hp} {H0 : HB} {es : List Expr} {tr : TA} {fr : En → Option (List D)} {st : Stmt}
section
variable {κ : Type} [DecidableEq κ]
def lookG : List κ → List D → κ → Option D
  | j :: ks, d :: ds, k => if j = k then some d else lookG ks ds k
  | _, _, _ => none
def putG : List κ → List D → κ → D → List κ × List D
  | j :: ks, d :: ds, k, x => if j = k then (j :: ks, x :: ds) else (j :: (putG ks ds k x).1, d :: (putG ks ds k x).2)
  | _, _, k, x => ([k], [x])
theorem RpAll.putG {k : κ} {v : V} {d : D} (r : Rp K B v d) : ∀ {kvs : List (κ × V)} {ds : List D}, (kvs.map (·.1)).Nodup → RpAll K B (kvs.map (·.2)) ds → (putK kvs k v).map (·.1) = (DD.putG (kvs.map (·.1)) ds k d).1 ∧ RpAll K B ((putK kvs k v).map (·.2)) (DD.putG (kvs.map (·.1)) ds k d).2
  | [], _, _, h => by
    cases h
    exact ⟨rfl, .cons r .nil⟩
  | p :: m, _, nd, h => by
    rw [List.map_cons, List.nodup_cons] at nd
    cases h with
    | cons h1 h2 =>
      rename_i d1 ds1
      by_cases e : p.1 = k
      · have q1 : putK (p :: m) k v = (p.1, v) :: m := by
          unfold putK
          rw [if_pos (by rw [List.any_cons, decide_eq_true e, Bool.true_or])]
          rw [List.map_cons, if_pos e]
          congr 1
          have : ∀ kv ∈ m, (if kv.1 = k then (kv.1, v) else kv) = kv := fun kv hkv => by
            rw [if_neg]
            intro z
            exact nd.1 (by rw [e, ← z]; exact List.mem_map_of_mem hkv)
          rw [List.map_congr_left this]
          exact List.map_id _
        have q2 : DD.putG ((p :: m).map (·.1)) (d1 :: ds1) k d = (p.1 :: m.map (·.1), d :: ds1) := by
          show (if p.1 = k then _ else _) = _
          rw [if_pos e]
        rw [q1, q2]
        exact ⟨rfl, .cons r h2⟩
      · obtain ⟨i1, i2⟩ := RpAll.putG (k := k) r nd.2 h2
        have q1 : putK (p :: m) k v = p :: putK m k v := by
          unfold putK
          rw [List.any_cons, decide_eq_false e, Bool.false_or, List.map_cons, if_neg e]
          split <;> rfl
        have q2 : DD.putG ((p :: m).map (·.1)) (d1 :: ds1) k d = (p.1 :: (DD.putG (m.map (·.1)) ds1 k d).1, d1 :: (DD.putG (m.map (·.1)) ds1 k d).2) := by
          show (if p.1 = k then _ else _) = _
          rw [if_neg e]
        rw [q1, q2]
        exact ⟨by rw [List.map_cons, i1], .cons h1 i2⟩
end
end
end DD

namespace DD
open PySem PySem.Spec PyProof.Rows L2 Evl

section
variable {X : Cx} {pins : List (Addr × Obj)} {σ : L2.St} {H : Hp} {s : Shared}
end
end DD

namespace DD
open PySem PySem.Spec PyProof.Rows L2 Evl

def addI (l : List Int) (k : Int) : List Int := if k ∈ l then l else l ++ [k]
def dedI (ns : List Int) : List Int := ns.foldl addI []
def leI (a b : Int) : Bool := decide (a ≤ b)
def srtI (ns : List Int) : List Int := (dedI ns).mergeSort leI
section
variable {K : PySem.W.Frag} {X : Cx} {pos : Pos} {tg a b c e : Expr} {ta tb tc te : TE} {fa fb fc f : En → Option D} {B H : Hp} {tt tu : TT} {ft fu : En → Option Bool}
@[simp] def lSortS (g : En → Option (List Int)) : En → Option (List D) := fun en => (g en).bind fun ns => if (dedI ns).length < 64 then some ((srtI ns).map D.int) else none
end
end DD

namespace DD
open PySem PySem.Spec PyProof.Rows L2 Evl
section
variable {K : PySem.W.Frag} {X : Cx} {pos : Pos} {tg a b c e : Expr} {ta tb tc te : TE} {fa fb fc f : En → Option D} {B H : Hp} {tt tu : TT} {ft fu : En → Option Bool} {es : List Expr} {tr : TA} {fr : En → Option (List D)}
def dChain (g g' : D → D → Option D) (fa fb fc : En → Option D) : En → Option D := fun en => (fa en).bind fun x => (fb en).bind fun y => (g x y).bind fun
  | .bl k => if k = true then (fc en).bind fun z => g' y z else some (.bl false)
  | _ => none
theorem ce_chain {r r' : R2} {g g' : D → D → Option D} (hr : OpD K r g) (hr' : OpD K r' g') (ha : CE K ta fa) (hb : CE K tb fb) (hc : CE K tc fc) : CE K (tChain r r' ta tb tc) (dChain g g' fa fb fc) := fun B0 H0 B H σ en d hE q Q k => by
  obtain ⟨x, e1, q⟩ := obind q
  obtain ⟨y, e2, q⟩ := obind q
  obtain ⟨z, e3, q⟩ := obind q
  refine ha B0 H0 B H σ en x hE e1 _ fun v B1 H1 x1 r1 => ?_
  refine hb B0 H0 B1 H1 σ en y (hE.up x1) e2 _ fun u B2 H2 x2 r2 => ?_
  refine hr B2 H2 v u x y z x2.bh (r1.up x2.bb) r2 e3 _ fun w B3 H3 x3 r3 => ?_
  split at q
  · rename_i j
    cases r3
    refine ⟨j, rfl, ?_⟩
    cases j with
    | true =>
      rw [if_pos rfl] at q ⊢
      obtain ⟨z', e4, q⟩ := obind q
      have x13 := (x1.trans x2).trans x3
      refine hc B0 H0 B3 H3 σ en z' (hE.up x13) e4 _ fun w' B4 H4 x4 r4 => ?_
      exact hr' B4 H4 u w' y z' d x4.bh ((r2.up x3.bb).up x4.bb) r4 q Q fun o B5 H5 x5 r5 => k o B5 H5 ((x13.trans x4).trans x5) r5
    | false =>
      rw [if_neg Bool.false_ne_true] at q ⊢
      cases q
      exact k _ B3 H3 ((x1.trans x2).trans x3) (.bl _)
  · cases q
theorem de_chainR {op op' : CmpOp} {r r' : R2} {g g' : D → D → Option D} (ho : OpR X (compareOp op) r) (ho' : OpR X (compareOp op') r') (hr : OpD X.K r g) (hr' : OpD X.K r' g') (ha : DE X a ta fa) (hb : DE X b tb fb) (hc : DE X c tc fc)
    (hm : lastMarks [op, op'] [b, c] = false := by with_unfolding_all rfl) : DE X (.Compare a [op, op'] [b, c] pos) (tChain r r' ta tb tc) (dChain g g' fa fb fc) := ⟨pe_chain ho ho' ha.p hb.p hc.p hm, ce_chain hr hr' ha.c hb.c hc.c⟩
@[simp] def sPar (i j : Nat) (fr : En → Option (List D)) : En → Option Out := fun en => (fr en).bind fun
  | [d, e] => some (.nx ((en.set i (.dat d)).set j (.dat e)))
  | _ => none
end
end DD
namespace DD
open PySem PySem.Spec PyProof.Rows L2 Evl
section
variable {K : PySem.W.Frag} {X : Cx} {pos : Pos} {e : Expr} {te : TE} {f : En → Option D} {B H : Hp}
theorem walk_el {p : Addr} {vs : List V} {ds : List D} (s : SqL K B p vs) (r : RpAll K B vs ds) : WalkD K (Ite K p) B (countD 0 ds) where
  go := fun i H d hE e => by
    obtain ⟨c, h1, rfl⟩ := countD_get e
    obtain ⟨v, h2, _⟩ := r.get i h1
    exact ⟨vs, v, ex_l hE s, h2⟩
  yl := fun i B1 H d x H' h1 h2 e y => by
    obtain ⟨c, h3, rfl⟩ := countD_get e
    obtain ⟨v, q1, q2⟩ := r.get i h3
    obtain ⟨T, u, rfl, hT, rfl, hy⟩ := y
    have := hy vs (ex_l (h1.trans h2) s)
    rw [q1] at this
    cases this
    have e0 : (0 : Int) + ((i : Nat) : Int) = ((i : Nat) : Int) := by omega
    rw [e0]
    exact ⟨_, Ext.new h2 hT, .tup upd_same ((RpAll.cons (.int _) (.cons (q2.up h1) .nil)).up (Ex.new (fresh_back h2 hT)))⟩
  stop := fun i H hE hl => by
    rw [countD_len, ← r.len] at hl
    exact ⟨vs, ex_l hE s, hl⟩
def tEnumA (K : PySem.W.Frag) (ta : TA) : TI := fun σ H R => iEnum K ta σ H R ∨ ZZ.iEnT K ta σ H R
def iEnumA (f : En → Option D) : En → Option (List D) := fun en => (f en).bind fun
  | .lst ds => some (countD 0 ds)
  | .tup ds => some (countD 0 ds)
  | _ => none
theorem di_enumA {elts : List Expr} {kk : Nat} {p tpos : Pos} (hK : X.K = K) (hg : Gl X "enumerate") (hm : X.mg "enumerate" = none) (ha : DE X e te f) (hs : starEach [e] X.env = [(false, eval e X.env)] := by rfl) :
    DI X (.Tuple elts kk tpos) (.Call (.Name "enumerate" p) [e] [] pos) (tEnumA K (tCons te tNil)) (iEnumA f) := by
  subst hK
  exact ⟨⟨fun pins s σ H R I h => h.elim ((pi_enum hg hm (pa_cons ha.p pa_nil hs) hs).run pins s σ H R I) ((ZZ.pi_enumT hg hm (pa_cons ha.p pa_nil hs) hs).run pins s σ H R I)⟩, fun B0 H0 B H σ en ds hE e R k => by
    obtain ⟨d, e1, e⟩ := obind e
    have run := ha.c B0 H0 B H σ en d hE e1
    split at e
    · cases e
      exact .inl (run _ fun v B1 H1 x r => by
        cases r with
        | lst s q => exact ⟨_, _, rfl, ex_l x.bh s, k _ B1 H1 x (walk_el s q)⟩)
    · cases e
      exact .inr (run _ fun v B1 H1 x r => by
        cases r with
        | tup s_ q => exact ⟨_, _, rfl, ex_t x.bh (SqT.of s_), k _ B1 H1 x (walk_et (SqT.of s_) q)⟩)
    · cases e⟩
end
end DD
namespace DD
open PySem PySem.Spec PyProof.Rows L2 Evl
section
variable {K : PySem.W.Frag} {X : Cx} {pos : Pos} {a b : Expr} {ta tb : TE} {fa fb : En → Option D}
end
end DD
namespace DD
open PySem PySem.Spec PyProof.Rows L2 Evl
section
variable {K : PySem.W.Frag} {X : Cx} {pos : Pos} {tg a b c : Expr} {tr : TA} {fr : En → Option (List D)} {B H : Hp}
end
end DD

namespace DD
open PySem PySem.Spec PyProof.Rows L2 Evl
section
variable {K : PySem.W.Frag} {X : Cx} {pos : Pos} {tg a b c e : Expr} {ta tb tc te : TE} {fa fb fc f : En → Option D} {B H : Hp} {tt tu : TT} {ft fu : En → Option Bool} {es rest : List Expr} {tr : TA} {fr : En → Option (List D)}
theorem RpAll.last : ∀ {vs : List V} {ds : List D} {d : D}, RpAll K B vs ds → ds.getLast? = some d → ∃ v, vs[vs.length - 1]? = some v ∧ Rp K B v d := fun {vs ds d} r e => by
  rw [List.getLast?_eq_getElem?] at e
  obtain ⟨v, h1, h2⟩ := r.get _ e
  exact ⟨v, by rw [r.len]; exact h1, h2⟩
open Classical in
theorem EnOk.thawT {B0 : Hp} {H0 : HB} {σ : L2.St} {en : En} (h : EnOk K B0 H0 B H σ en) : ∃ B1, EnOk K B1 ⟨H, H0.rt⟩ B1 H σ (en.map Sl.thaw) ∧
    ∀ B2 H2, Ext B1 H B2 H2 → ∃ B', Ext B H B' H2 ∧ ∀ (q : Addr) (xs : List V), B2 q = some (.tup xs) → B' q = some (.tup xs) := by
  obtain ⟨own, B1, hO, hN, what, hB, hH, hE⟩ := h.thawX
  refine ⟨B1, hE, fun B2 H2 x => ?_⟩
  refine ⟨fun q => if own q then B q else B2 q, ⟨fun q o e => ?_, fun q o e => ?_, x.hh, fun q hq => ?_⟩, fun q xs e => ?_⟩
  · show (if own q then B q else B2 q) = some o
    by_cases hq : own q
    · rw [if_pos hq]; exact e
    · rw [if_neg hq]; exact x.bb _ _ (hB _ _ e)
  · have e : (if own q then B q else B2 q) = some o := e
    by_cases hq : own q
    · rw [if_pos hq] at e
      exact x.hh _ _ (h.bh _ _ e)
    · rw [if_neg hq] at e
      exact x.bh _ _ e
  · show (if own q then B q else B2 q) = B q
    by_cases hq' : own q
    · rw [if_pos hq']
    · rw [if_neg hq', x.st q hq, hN q hq']
  · show (if own q then B q else B2 q) = some (.tup xs)
    by_cases hq : own q
    · have m := (what q hq).2
      cases c : H q with
      | none => exact absurd c m.1
      | some o =>
        have z := x.bb _ _ ((hO q hq).trans c)
        rw [e] at z
        exact absurd (c.trans z.symm) (m.2 xs)
    · rw [if_neg hq]; exact e
end
end DD
namespace DD
open PySem PySem.Spec PyProof.Rows L2 Evl
section
variable {K : PySem.W.Frag} {X : Cx} {pos : Pos} {a b : Expr} {ta tb : TE} {fa fb : En → Option D}
end
end DD

namespace ZK
open PySem PySem.Spec PyProof.Rows L2 ZZ
def SeqAt : Bool → Heap → Addr → Array Value → Prop
  | true, h, t, its => h.IsList t its
  | false, h, t, its => h.IsTuple t its
def SeqIt : Bool → Heap → Addr → Addr → Nat → Prop
  | true, h, it, t, i => h.IsListIter it t i
  | false, h, it, t, i => h.IsTupleIter it t i
theorem SeqAt.at {k : Bool} {h h' : Heap} {t : Addr} {its : Array Value} (x : SeqAt k h t its) (e : ∀ o, h.get? t = some o → h'.get? t = some o) : SeqAt k h' t its := by
  cases k
  · exact Heap.IsTuple.at x e
  · exact Heap.IsList.at x e
theorem SeqIt.at {k : Bool} {h h' : Heap} {it t : Addr} {i : Nat} (x : SeqIt k h it t i) (e : ∀ o, h.get? it = some o → h'.get? it = some o) : SeqIt k h' it t i := by
  cases k
  · exact Heap.IsTupleIter.at x e
  · exact Heap.IsListIter.at x e
theorem SeqIt.obj {k : Bool} {h : Heap} {it t : Addr} {i : Nat} (x : SeqIt k h it t i) : ∃ o, h.get? it = some o ∧ ∃ vs, o.data = .fields vs := by
  cases k
  · obtain ⟨o, e, _, d⟩ := x
    exact ⟨o, e, _, d⟩
  · obtain ⟨o, e, _, d⟩ := x
    exact ⟨o, e, _, d⟩
section
variable {prog : Program} {w : World} {A : Around} {E : Value → Shared → Prop}
structure Two (z TI TO i1 i2 l1 l2 : Addr) : Prop where
  a1 : TI ≠ z
  a2 : TO ≠ z
  a3 : i1 ≠ z
  a4 : i2 ≠ z
  b1 : TI ≠ TO
  b2 : TO ≠ i1
  b3 : TO ≠ i2
  b4 : TI ≠ i1
  b5 : TI ≠ i2
  c1 : i1 ≠ i2
  d1 : l1 ≠ z
  d2 : l1 ≠ TO
  d3 : l2 ≠ z
  d4 : l2 ≠ TO
  d5 : l2 ≠ i1
end
section
variable {prog : Program} {w : World} {A : Around} {E : Value → Shared → Prop} {s : Shared}
end
end ZK

namespace DD
open PySem PySem.Spec PyProof.Rows L2 Evl
section
variable {K : PySem.W.Frag} {X : Cx} {pos : Pos} {a b : Expr} {fr : En → Option (List D)} {tr : TA} {B H : Hp}
end
end DD

namespace DD
open PySem PySem.Spec PyProof.Rows L2 Evl
section
variable {K : PySem.W.Frag} {X : Cx} {pos : Pos} {tg a b c e : Expr} {ta tb tc te : TE} {fa fb fc f : En → Option D} {B B1 H B0 : Hp} {H0 : HB}
@[simp] def gLenT : List D → Option D
  | [.dit ks _] => some (.int ks.length)
  | _ => none
@[simp] def dOwnAt (i : Nat) (fj : En → Option D) : En → Option D := fun en => (fj en).bind fun j => match j, en[i]? with
  | .int j, some (.own ds) => atI ds j
  | _, _ => none
end
end DD

namespace SUP
open PySem PySem.Spec PyProof.Rows L2 NdefX
structure SupC (P : Program) (K : PySem.W.Frag) (mg : Str → Option Value) (C f cc cda : Addr) (qual : Str) (params : Arguments) (body : List Stmt) (scope : Scope) (fd : FuncData) : Prop where
  oex : OexC K C
  fn : ∃ (oc : Value) (od : Option Addr) (doc pm ct : Value) (an : Option Addr) (osl : Array (Option Value)), fd = PySem.W.ksFn "__init__" qual params body scope .none .none doc pm an (.ref cda) ct cc ∧ K.lookup f = some ⟨oc, od, .func fd, osl⟩
  code : PySem.W.codeIn K (.ref cda) qual = true
  cob : ∃ (ccl : Value) (cdd : Option Addr) (vs : Array Value) (ccs : Array (Option Value)) (file : Str) (tf : Tok), K.lookup cda = some ⟨ccl, cdd, .fields vs, ccs⟩ ∧ vs[2]? = some (.str file tf) ∧ ((P.main.file : Str) == file) = true
  cell : ∃ (cl : Value) (cld : Option Addr) (csl : Array (Option Value)), K.lookup cc = some ⟨cl, cld, .cell (some (.ref C)), csl⟩
  self : PySem.W.mroIn K C (.ref C) = some true
  nosup : mg "super" = none
  sup : PySem.W.ks_superIn K C C "__init__" = some (some (.builtin "ValueError.__init__"))
  sub : PySem.W.subIn K (.ref C) (.type "ValueError") = some true
  any : PySem.W.nsIn K PySem.cStatics "thirdparty.any" = some none
  top : (P.main.scope.names.lookup ("super" : Str)).isSome = false
section
variable {prog : Program} {w : World} {A : Around} {E : Value → Shared → Prop} {h : Heap} {g : Array GenState} {d : Drawn} {t : Nat} {os : OsState}
variable {nm q : Str} {C N : Addr} {bs bm bmB : List Value} {hdct : Bool} {sn : List Str} {sub : List Value} {ab : Bool} {col : Option Bool} {dd : Option Addr} {k0 k1 k2 k3 k5 : Option Value} {newId initId : String}
theorem call_mw {B : String} {u x t0 : Addr} {rest : List Value} {Q : Value → Shared → Prop} (F : ExcBaseFacts B newId initId bmB)
    (hC : h.get? C = some (excClassObj nm q C N bs bm hdct sn sub ab col dd k0 k1 k2 k3 k5 newId)) (he : h.get? x = some (PySem.W.excObj C t0 none .none)) (hu : h.get? u = some (PySem.W.kxs_mw initId x)) (hr : rest.length ≤ sizeLine)
    (fin : ∀ h' t1, (∀ b o, b ≠ x → h.get? b = some o → h'.get? b = some o) → h'.get? x = some (PySem.W.excObj C t1 none .none) → Q .none ⟨h', g, d, t, os⟩) :
    wpAny (model prog w) A (call (.ref u) rest) Q E ⟨h, g, d, t, os⟩ := by
  refine wpAny_call (codeAny_of_tree ?_)
  show wpAny _ A.in1 (callAny (.ref u) ⟨rest, []⟩) _ _ _
  simp only [callAny]
  refine wpAny_bind (wpAny_load hu ?_)
  simp only [PySem.W.kxs_mw, show (Value.type "method-wrapper" == Value.type "method" || Value.type "method-wrapper" == Value.type "builtin_function_or_method" || Value.type "method-wrapper" == Value.type "method-wrapper") = true by decide, if_true]
  refine PySem.W.KFB.if_so (by decide) ?_
  refine wpAny_bind (PySem.W.check_bound_init F.toExcCallFacts hC he rfl (wpAny_bind (wpAny_pure (wpAny_pure ?_))))
  refine ⟨plainId_quiet F.init.plain _, codeAny_builtin F.initEntry ?_⟩
  exact PySem.W.exc_init_tree (cls := .ref C) (t0 := t0) (dv := none) (c2 := .none) (c3 := .none) (b4 := .bool false) he hr fun h' k e' _ => fin h' _ k e'
end
section
variable {CX : CXT} {P : Program} {w : World} {K : PySem.W.Frag} {mg : Str → Option Value} {base : Heap} {C f cc cda : Addr} {qual : Str} {params : Arguments} {body rest : List Stmt} {scope : Scope} {fd : FuncData} {N ps : List Str} {k : Nat} {sp : Sp} {e : Expr} {p0 p1 p2 p3 p4 : Pos} {ar : Arg}
abbrev F0 (qual : Str) (params : Arguments) (body : List Stmt) (scope : Scope) (cc cda : Addr) : NF := ⟨"__init__", qual, params, body, scope, [("__class__", cc)], cda⟩
theorem sup_ok (T : SupC P K mg C f cc cda qual params body scope fd) (S : NScope N ps ["__class__"] scope) (hbody : body = .Expr (.Call (.Attribute (.Call (.Name "super" p0) [] [] p1) "__init__" p2) [e] [] p3) p4 :: rest)
    (hp : (params.posonlyargs ++ params.args).head? = some ar) (hN : N[0]? = some ar.arg) (h0 : ps[0]? = some ar.arg) (hks : scope.names.lookup ("super" : Str) = some .globalImplicit)
    (len : ∀ vs H Q E, sp vs H Q E → vs.length = ps.length)
    (hrun : ∀ (A : Around) (outer : List Env) (s : Shared) (H : Hp) (vs : List V) (Q : VK) (E : XK), Room k (A.deeper (envF (F0 qual params body scope cc cda) f s.heap.objs.size)) → sp vs H Q E →
      ∃ (ta : TA) (t : TS) (a : Addr) (ws : List V), vs = .ref a :: ws ∧ H a = some (exo a C none) ∧ PA (ncx CX P w K mg base N (F0 qual params body scope cc cda) f A outer s H E) [e] ta ∧ PSs (ncx CX P w K mg base N (F0 qual params body scope cc cda) f A outer s H E) rest t ∧
        ta (startF N vs [some (.ref C)]) H (fun us H1 => H1 = H ∧ us.length ≤ 1000) ∧ t { nx := fun _ H' => Q .non H', rt := Q } (startF N vs [some (.ref C)]) H)
    (hsw : ∀ env : Env, swapsWith (.Call (.Attribute (.Call (.Name "super" p0) [] [] p1) "__init__" p2) [e] [] p3) none p4.line env = pure false := by intro _; rfl)
    (hst : ∀ env : Env, starEach [e] env = (false, eval e env) :: starEach [] env := by intro _; rfl)
    (hev : ∀ env : Env, ∃ pl : Sem Bool, eval (.Call (.Attribute (.Call (.Name "super" p0) [] [] p1) "__init__" p2) [e] [] p3) env = (do
      let ov ← attributeBase (.Call (.Name "super" p0) [] [] p1) "__init__" env (eval (.Call (.Name "super" p0) [] [] p1) env)
      standAt p2.atName
      let (f, first) ← holding [ov] (getMethod ov "__init__" pl)
      callWith p3 f first (backTo p3 (starEach [e] env)) []) := by intro _; exact ⟨_, rfl⟩) :
    FnOk P w K mg base CX (k + 1) f fd ps sp := by
  refine ⟨len, fun A outer s H args us vs Q E hr e0 hb r hsp => ?_⟩
  have hl := len _ _ _ _ hsp
  obtain ⟨oc, od, doc, pm, ct, an, osl, rfl, lk⟩ := T.fn
  have X : K.In s.heap := e0.mod.kin.keeps fun b o e => (e0.bs b o e).1
  have lim : s.heap.NoLimit := e0.mod.nolimit.keeps fun b o e => (e0.bs b o e).1
  obtain ⟨ccl, cdd, vs2, ccs, file, tf, lkc, hvs, hfile⟩ := T.cob
  obtain ⟨cl, cld, csl, lcell⟩ := T.cell
  refine PySem.ks_codeAny_call_defAt (binds := ps.zip us) hr.depth (X _ _ lk) rfl lim (PySem.W.codeRec_of X T.code) rfl hb S.nocell (fun ⟨n, _⟩ hy => S.par n (List.of_mem_zip hy).1) (fun h₀ hns kp => ?_) S.co S.gen S.kind
  obtain ⟨ta, t, a, ws, rfl, ea, ha, hrest, hta, ht⟩ := hrun A outer s H vs Q E (hr.deeper _) hsp
  have hcc : H cc = none := (e0.bs _ _ (e0.mod.kin _ _ lcell)).2
  have CA : CellsAt [(("__class__" : Str), cc)] ["__class__"] [some (.ref C)] s.heap H := {
    len := rfl
    all := fun y c hy => by
      have hy : List.lookup y [(("__class__" : Str), cc)] = some c := hy
      simp only [List.lookup] at hy
      split at hy
      · cases hy
        exact ⟨hcc, some (.ref C), _, X _ _ lcell, rfl⟩
      · cases hy
    inj := fun x y c hx hy => by
      have hx : List.lookup x [(("__class__" : Str), cc)] = some c := hx
      have hy : List.lookup y [(("__class__" : Str), cc)] = some c := hy
      simp only [List.lookup] at hx hy
      split at hx
      · split at hy
        · rename_i h1 _ h2
          rw [eq_of_beq h1, eq_of_beq h2]
        · cases hy
      · cases hx
    has := fun i y hi => by
      match i with
      | 0 =>
        have hi : some ("__class__" : Str) = some y := hi
        cases hi
        refine ⟨cc, by simp [List.lookup], fun v hv => ?_⟩
        have hv : some (some (V.ref C)) = some (some v) := hv
        cases hv
        exact ⟨.ref C, rfl, _, X _ _ lcell, rfl⟩
      | i + 1 => exact absurd hi (by simp) }
  have I0 : Inv (ncx CX P w K mg base N (F0 qual params body scope cc cda) f A outer s H E) [] (startF N (.ref a :: ws) [some (.ref C)]) H { s with heap := h₀, toks := s.toks + (ps.zip us).length } := inv_startN S hr.hd e0 hl r CA hns kp
  have X0 : K.In h₀ := X.keeps kp
  have fin : ∀ {pins : List (Addr × Obj)} {s' : Shared} {σ' : L2.St} {H' : Hp} {v : V} {u : Value}, Inv (ncx CX P w K mg base N (F0 qual params body scope cc cda) f A outer s H E) pins σ' H' s' → L2.RelV v u → Q v H' → CE outer P w H s Q u s' :=
    fun {pins s' σ' H' v u} J rv q => ⟨v, H', J.os, J.bare, J.base, J.hok, rv, q⟩
  -- self, as it lies in the frame
  obtain ⟨nm, qn, NN, bs, bm, sn, sub, ab, col, dd, k0, k1, k2, k3, k5, hC, hbm⟩ := T.oex.cls
  have hCh : h₀.get? C = some (excClassObj nm qn C NN bs bm true sn sub ab col dd k0 k1 k2 k3 k5 "ValueError.__new__") := X0 _ _ hC
  obtain ⟨t1, hx⟩ := exo_at I0.hok ea
  have hx : h₀.get? a = some ({ cls := .ref C, dict := none, data := .fields #[.ref t1, .none, .none, .none, .bool false, .none] } : Obj) := hx
  have II : PySem.W.InstAt h₀ a { cls := .ref C, dict := none, data := .fields #[.ref t1, .none, .none, .none, .bool false, .none] } C none := ⟨hx, rfl, rfl, trivial⟩
  have hcl : PySem.W.clsIn K C = some { name := nm, bases := bs, mro := .ref C :: bm, ns := NN, qualname := qn, hasDict := true, slotNames := sn, subclasses := sub, abstract := ab, collection := col, hasDel := false } := by unfold PySem.W.clsIn; rw [hC] <;> rfl
  have hself : ∃ m, h₀.Ns s.heap.objs.size m ∧ m ar.arg = some (.ref a) := by
    obtain ⟨m, hm, hloc⟩ := I0.loc
    obtain ⟨u, ru, lu⟩ := hloc 0 ar.arg (.ref a) hN rfl (.inl (S.par _ (List.mem_of_getElem? h0)))
    obtain rfl : u = Value.ref a := ru
    rcases lu with ⟨_, e⟩ | ⟨hk, _⟩
    · exact ⟨m, hm, e⟩
    · exfalso
      have kl : scope.names.lookup ar.arg = some .local := S.par _ (List.mem_of_getElem? h0)
      rcases hk with hk | hk
      · have hk : scope.names.lookup ar.arg = some .cell := hk
        rw [kl] at hk
        cases hk
      · have hk : scope.names.lookup ar.arg = some .free := hk
        rw [kl] at hk
        cases hk
  obtain ⟨m, hm, hma⟩ := hself
  have hkc : scope.names.lookup ("__class__" : Str) = some .free := S.frk _ List.mem_cons_self
  have hint : ∀ (env : Env), env.scope = scope → interactive env = false := fun env he => by
    unfold interactive
    rw [he, S.kind] <;> rfl
  rw [hbody]
  obtain ⟨pl, hpl⟩ := hev (callEnv (PySem.W.ksFn "__init__" qual params body scope .none .none doc pm an (.ref cda) ct cc) s.heap.objs.size f)
  refine PySem.ks_wpAt_execs_cons (PySem.ks_wpAt_Expr_any (PySem.ks_wpAt_MethodCall ?_ hpl) (hint _ rfl) (hsw _))
  refine PySem.ks_wpAt_super_base (env := callEnv (PySem.W.ksFn "__init__" qual params body scope .none .none doc pm an (.ref cda) ct cc) s.heap.objs.size f) (f := f) (cc := cda) (ar := ar) hks hkc (by decide) rfl (X0 _ _ lk) rfl hp rfl (X0 _ _ lkc) rfl hvs hfile T.top ?_
  obtain ⟨mb, b1, b2⟩ := I0.mod.blt
  refine PySem.W.ks_loadName_global S.kind hks (Calls.loadGlobal_builtin (by exact I0.mod.glob.keeps I0.bk) T.nosup (by exact b1.keeps I0.bk) ((b2 _ (by decide)).trans Boot.«super») ⟨rfl, ?_⟩)
  refine wpAny_loadName_free S.kind hkc rfl ⟨_, X0 _ _ lcell, rfl⟩ ?_
  refine wpAny_loadName_local S.kind (S.par _ (List.mem_of_getElem? h0)) hm hma ?_
  refine PySem.ks_wpAny_isType_cls hCh rfl ⟨rfl, ?_⟩
  refine PySem.ks_wpAny_call_super hCh rfl hx rfl (fun c z => nomatch z) (PySem.W.looks_mroIn X0 T.self) (fun h1 hso kp1 => ?_)
  have X1 : K.In h1 := X0.keeps kp1
  have I1x : PySem.W.InstAt h1 a { cls := .ref C, dict := none, data := .fields #[.ref t1, .none, .none, .none, .bool false, .none] } C none := ⟨kp1 _ _ hx, rfl, rfl, trivial⟩
  have hal : PySem.W.alongIn K "__init__" (((Value.ref C :: bm).dropWhile (· != .ref C)).drop 1) = some (some (.builtin "ValueError.__init__")) := by
    have z := T.sup
    unfold PySem.W.ks_superIn at z
    rw [hcl] at z
    exact z
  refine PySem.W.kxs_getMethod PySem.W.kxs_ValueError hso (PySem.W.looks_opaque X1 T.any) (l₀ := .ref C :: bm) ?_ rfl X1 hal (I1x.type.andThen (PySem.W.looks_subIn X1 T.sub)) (PySem.W.ks_ne X1 I1x hcl) (by decide) ?_
  · exact fun A Q E s k q => wpAny_bind ((PySem.W.looks_clsIn X1 hcl) A _ E s k (wpAny_pure q))
  have kp2 : ∀ b o, h₀.get? b = some o → (h1.push (PySem.W.kxs_mw "ValueError.__init__" a)).get? b = some o := fun b o e => Heap.get?_push_of_some _ (kp1 b o e)
  have hmw : (h1.push (PySem.W.kxs_mw "ValueError.__init__" a)).get? h1.objs.size = some (PySem.W.kxs_mw "ValueError.__init__" a) := Heap.get?_push_at rfl rfl
  have hle : h₀.objs.size ≤ h1.objs.size := by
    have z := Heap.lt_size hso
    exact Nat.le_of_lt z
  have J1 : Inv (ncx CX P w K mg base N (F0 qual params body scope cc cda) f A outer s H E) [] (startF N (.ref a :: ws) [some (.ref C)]) H ⟨h1.push (PySem.W.kxs_mw "ValueError.__init__" a), s.gens, s.drawn, s.toks + (ps.zip us).length + 1, s.os⟩ := I0.kept (t' := s.toks + (ps.zip us).length + 1) kp2
  have fp := I0.fpOk (b := h1.objs.size) (H' := H) hle (I0.hok.fresh hle)
  have J2 : Inv (ncx CX P w K mg base N (F0 qual params body scope cc cda) f A outer s H E) [(h1.objs.size, PySem.W.kxs_mw "ValueError.__init__" a)] (startF N (.ref a :: ws) [some (.ref C)]) H ⟨h1.push (PySem.W.kxs_mw "ValueError.__init__" a), s.gens, s.drawn, s.toks + (ps.zip us).length + 1, s.os⟩ := J1.pins_of fun p hp => by
    rw [List.mem_singleton] at hp
    subst hp
    exact ⟨hmw, fp.1, fp.2.1, fp.2.2.1, fun v z => nomatch z⟩
  show wpAny _ _ (callWith p3 (.ref h1.objs.size) [] (backTo p3 (starEach [e] _)) []) _ _ _
  rw [hst]
  refine PySem.W.kxs_callWith (i := "ValueError.__init__") (x := a) rfl ?_
  refine PySem.Calls.evalArgs_plain ?_
  have har := ha.run p3 _ _ _ _ _ J2 hta
  have har : wpAny (model P w) _ (spliced (backTo p3 (starEach [e] (envF (F0 qual params body scope cc cda) f s.heap.objs.size)))) _ _ _ := har
  rw [hst] at har
  refine thn har fun us2 s2 hh => ?_
  obtain ⟨vs3, H3, I3, r3, rfl, l3⟩ := hh
  have hmw2 : s2.heap.get? h1.objs.size = some (PySem.W.kxs_mw "ValueError.__init__" a) := (I3.pin _ (List.mem_append_right _ List.mem_cons_self)).1
  refine ⟨hmw2, ?_⟩
  obtain ⟨t2, hx2⟩ := exo_at I3.hok ea
  have hus : us2.length ≤ sizeLine := by
    rw [← Paired.length r3, sizeLine_eq]
    omega
  obtain ⟨hp2, g2, d2, tk2, os2⟩ := s2
  refine call_mw F.excBase_ValueError (I3.kIn _ _ hC) hx2 hmw2 hus fun h' t3 k' hx3 => ?_
  have J := I3.write (t' := tk2) (x := a) (e := a) (o := exo a C none) (by rw [ea]; exact True.intro) (.inl rfl) k' ⟨_, hx3⟩ (exo_ok hx3)
  have eu : upd H3 a (exo a C none) = H3 := by
    funext b
    by_cases hb : b = a
    · rw [hb, upd_same, ea]
    · rw [upd_ne hb]
  rw [eu] at J
  refine wpAt_of_wpAny (wpAny_mono (hrest.run _ _ _ _ _ J ht) (fun fl s' hs => ?_) fun e s' hs => hs)
  cases fl with
  | ret u =>
    obtain ⟨v, σ', H', J, rv, q⟩ := hs
    exact fin J rv q
  | next =>
    obtain ⟨σ', H', J, q⟩ := hs
    exact fin (v := V.non) (u := Value.none) J rfl q
  | brk =>
    obtain ⟨_, _, _, q⟩ := hs
    exact False.elim q
  | cont =>
    obtain ⟨_, _, _, q⟩ := hs
    exact False.elim q
end
end SUP

namespace SUP
open PySem PySem.Spec PyProof.Rows L2 NdefX
def Fmt (x : V) : Prop := (∃ z : Str, x = .str z ∧ z.length ≤ 1000) ∨ ∃ i : Int, x = .int i ∧ i.natAbs < 10 ^ 15
def spI (C : Addr) (names : List Str) : Sp := fun vs H Q _ => ∃ (a : Addr) (xs : List V), vs = .ref a :: xs ∧ xs.length = names.length ∧ (∀ x ∈ xs, Fmt x) ∧ H a = some (exo a C none) ∧
  ∀ d, H d = none → d ≠ a → Q .non (upd (upd H d (exd d ((names.zip xs).reverse))) a (exo a C (some d)))
theorem spI_len {C : Addr} {names : List Str} {vs : List V} {H : Hp} {Q : VK} {E : XK} (h : spI C names vs H Q E) : vs.length = (("self" : Str) :: names).length := by
  obtain ⟨a, xs, rfl, hl, _⟩ := h
  rw [List.length_cons, List.length_cons, hl]
section
variable {X : Cx} {e : Expr} {te : TE} {σ : L2.St} {H : Hp}
theorem fmt_str {x : V} {Q : VK} (hx : Fmt x) (ht : ∀ R : VK, R x H → te σ H R) (q : ∀ z : Str, z.length ≤ 1000 → Q (.str z) H) : tFmt te σ H Q := by
  refine ht _ ?_
  rcases hx with ⟨z, rfl, hz⟩ | ⟨i, rfl, hi⟩
  · exact .inl ⟨z, rfl, by rw [sizeLine_eq]; omega, q z hz⟩
  · have hl : i.natAbs < 2 ^ 1920 := Nat.lt_of_lt_of_le hi (by decide +kernel)
    refine .inr ⟨i, rfl, ?_, q _ ?_⟩
    · by_cases z : i.natAbs = 0
      · rw [z]
        decide +kernel
      · exact (Nat.log2_lt z).mpr hl
    · have e := PySem.int_text_length_le10 (a := i) (k := 15) (by decide) hi
      rw [PySem.ofString_length]
      omega
theorem var_at {i : Nat} {v : V} (h : σ[i]? = some (some v)) : ∀ R : VK, R v H → tVar i σ H R := fun R r => ⟨v, h, r⟩
end
section
variable {P : Program} {w : World} {K : PySem.W.Frag} {mg : Str → Option Value} {base : Heap} {C f cc cda : Addr} {qual : Str} {params : Arguments} {scope : Scope} {fd : FuncData} {p0 p1 p2 p3 p4 q1 q2 q3 q4 r1 r2 r3 r4 j1 j2 j3 j4 j5 : Pos} {n1 n2 : Nat} {ar : Arg}
theorem ost_first {f : Str} {a C d : Addr} {i : Nat} {y : V} {D : Ends} {σ : L2.St} {H : Hp} (T : OexC K C) (hno : PySem.W.findIn K (.ref C) f = some none) (h0 : σ[0]? = some (some (.ref a))) (hi : σ[i]? = some (some y)) (ea : H a = some (exo a C none))
    (q : ∀ d, H d = none → d ≠ a → D.nx σ (upd (upd H d (exd d [(f, y)])) a (exo a C (some d)))) : tOst K f (tVar 0) (tVar i) D σ H :=
  ⟨y, hi, _, h0, a, C, rfl, T, hno, .inl ⟨ea, q⟩⟩
theorem init1_ok {x : Str} (T : SupC P K mg C f cc cda qual params
      [.Expr (.Call (.Attribute (.Call (.Name "super" p0) [] [] p1) "__init__" p2) [.JoinedStr [.FormattedValue (.Name x q1) (-1) none q2] q3] [] p3) p4, .Assign [.Attribute (.Name "self" r1) x r2] (.Name x r3) r4] scope fd)
    (S : NScope ["self", x, "__class__"] ["self", x] ["__class__"] scope) (hp : (params.posonlyargs ++ params.args).head? = some ar) (har : ar.arg = "self") (hks : scope.names.lookup ("super" : Str) = some .globalImplicit) (hno : PySem.W.findIn K (.ref C) x = some none) (hx1 : (x == ("__debug__" : Str)) = false) (hx2 : (x == ("__classdict__" : Str)) = false)
    (hev : ∀ env : Env, ∃ pl : Sem Bool, eval (.Call (.Attribute (.Call (.Name "super" p0) [] [] p1) "__init__" p2) [.JoinedStr [.FormattedValue (.Name x q1) (-1) none q2] q3] [] p3) env = (do
      let ov ← attributeBase (.Call (.Name "super" p0) [] [] p1) "__init__" env (eval (.Call (.Name "super" p0) [] [] p1) env)
      standAt p2.atName
      let (f, first) ← holding [ov] (getMethod ov "__init__" pl)
      callWith p3 f first (backTo p3 (starEach [.JoinedStr [.FormattedValue (.Name x q1) (-1) none q2] q3] env)) []) := by intro _; exact ⟨_, rfl⟩) :
    FnOk P w K mg base CX0 1 f fd ["self", x] (spI C [x]) := by
  refine sup_ok (k := 0) (sp := spI C [x]) T S rfl hp (by rw [har] <;> rfl) (by rw [har] <;> rfl) hks (fun vs H Q E h => spI_len h) (fun A outer s H vs Q E hr h => ?_) (hev := hev)
  obtain ⟨a, xs, rfl, hl, hf, ea, hq⟩ := h
  match xs, hl with
  | [y], _ =>
    let X : Cx := ncx CX0 P w K mg base ["self", x, "__class__"] (F0 qual params [.Expr (.Call (.Attribute (.Call (.Name "super" p0) [] [] p1) "__init__" p2) [.JoinedStr [.FormattedValue (.Name x q1) (-1) none q2] q3] [] p3) p4, .Assign [.Attribute (.Name "self" r1) x r2] (.Name x r3) r4] scope cc cda) f A outer s H E
    have v0 : ∀ p, PE X (.Name "self" p) (tVar 0) := fun p => pe_var (i := 0) rfl (.inl (S.par "self" List.mem_cons_self))
    have v1 : ∀ p, PE X (.Name x p) (tVar 1) := fun p => pe_var (i := 1) rfl (.inl (S.par x (List.mem_cons_of_mem _ List.mem_cons_self))) hx1 hx2
    refine ⟨_, _, a, [y], rfl, ea, pa_cons (pe_joined1 (pe_fmt (v1 _))) pa_nil, pss_one (ps_ost (v0 _) (v1 _)), ?_, ?_⟩
    · exact fmt_str (hf y List.mem_cons_self) (var_at rfl) fun z hz => ⟨rfl, by show 1 ≤ 1000; omega⟩
    · exact ost_first (a := a) (C := C) (d := a) T.oex hno rfl rfl ea fun d hd hne => hq d hd hne
end
end SUP

namespace DD
open PySem PySem.Spec PyProof.Rows L2 Evl SUP
def excD (c : Str) (ns : List Str) (fs : List D) : D := .tup (.dic (.inr c :: ns.map Sum.inr) [] :: fs)
def excOf : D → Option (Str × List Str × List D)
  | .tup (.dic (.inr c :: ks) [] :: fs) => (keyStrs ks).map fun ns => (c, ns, fs)
  | _ => none
theorem keyStrs_inr : ∀ ns : List Str, keyStrs (ns.map Sum.inr) = some ns
  | [] => rfl
  | n :: ns => by
    show (keyStrs (ns.map Sum.inr)).map _ = _
    rw [keyStrs_inr ns] <;> rfl
theorem excOf_excD {c : Str} {ns : List Str} {fs : List D} : excOf (excD c ns fs) = some (c, ns, fs) := by
  show (keyStrs (ns.map Sum.inr)).map _ = _
  rw [keyStrs_inr] <;> rfl
theorem excOf_some {d : D} {c : Str} {ns : List Str} {fs : List D} (h : excOf d = some (c, ns, fs)) : d = excD c ns fs := by
  unfold excOf at h
  split at h
  · obtain ⟨ms, h1, h2⟩ := omap h
    cases h2
    rw [keyStrs_some h1] <;> rfl
  · cases h
section
variable {K : PySem.W.Frag} {X : Cx} {pos : Pos} {tg a b c e : Expr} {ta tb tc te : TE} {fa fb fc f : En → Option D} {B B1 H H1 B0 : Hp} {H0 : HB} {tt tu : TT} {ft fu : En → Option Bool} {es rest : List Expr} {tr : TA} {fr : En → Option (List D)}
  {st : Stmt} {sts : List Stmt} {t u : TS} {g h : En → Option Out} {Dn Dn' : Ends} {o : Out} {W : XK}
theorem exc_never {v : V} {c : Str} {ns : List Str} {fs : List D} (r : Rp K B v (excD c ns fs)) : False := by
  cases r with
  | tup s q =>
    cases q with
    | cons q1 q2 =>
      generalize hk : ((Sum.inr c : Key) :: ns.map Sum.inr) = ks at q1
      cases q1 with
      | dic s2 q3 =>
        rename_i kvs
        cases kvs with
        | nil => cases hk
        | cons kv kvs => cases q3
theorem rp_value {v : V} {d : D} (r : Rp K B v d) : excOf d = none := by
  cases h : excOf d with
  | none => rfl
  | some p =>
    obtain ⟨c, ns, fs⟩ := p
    rw [excOf_some h] at r
    exact (exc_never r).elim
def XW (K : PySem.W.Frag) (B H : Hp) (d : D) (E : XK) : Prop := ∀ c ns fs, excOf d = some (c, ns, fs) → ∀ C, PySem.W.nsIn K mainGlobals c = some (some (.ref C)) →
  ∀ B' H' xs dA, Ext B H B' H' → H' dA = some (.xd ((ns.zip xs).reverse)) → RpAll K B' xs fs → E (.ref C) (some dA) H'
theorem XW.ext {B' H' : Hp} {d : D} {E : XK} (k : XW K B H d E) (x : Ext B H B' H') : XW K B' H' d E := fun c ns fs h C hC B2 H2 xs dA y => k c ns fs h C hC B2 H2 xs dA (x.trans y)
def XOk (K : PySem.W.Frag) (B0 : Hp) (H0 : HB) (W : XK) : Out → Prop
  | .rt d => XW K B0 H0 d W
  | .rm t en' => ∀ d c ns fs, t = .lf d → excOf d = some (c, ns, fs) → ∀ C, PySem.W.nsIn K mainGlobals c = some (some (.ref C)) →
      ∀ σ' B' H' xs dA, EnOk K B0 H0 B' H' σ' en' → H' dA = some (.xd ((ns.zip xs).reverse)) → RpAll K B' xs fs → W (.ref C) (some dA) H'
  | _ => True
def CSX (K : PySem.W.Frag) (W : XK) (ts : TS) (g : En → Option Out) : Prop := ∀ B0 H0 B H σ en o, EnOk K B0 H0 B H σ en → g en = some o → ∀ Dn : Ends, OutOk K B0 H0 B Dn o → XOk K B0 H0 W o → ts Dn σ H
structure DSX (X : Cx) (W : XK) (st : Stmt) (ts : TS) (g : En → Option Out) : Prop where
  p : PS X st ts
  c : CSX X.K W ts g
structure DSXs (X : Cx) (W : XK) (st : List Stmt) (ts : TS) (g : En → Option Out) : Prop where
  p : PSs X st ts
  c : CSX X.K W ts g
def CEX (K : PySem.W.Frag) (W : XK) (te : TE) (f : En → Option D) : Prop := ∀ B0 H0 B H σ en d, EnOk K B0 H0 B H σ en → f en = some d → ∀ Q : VK, Kp K B H d Q → XW K B H d W → te σ H Q
structure DEX (X : Cx) (W : XK) (e : Expr) (te : TE) (f : En → Option D) : Prop where
  p : PE X e te
  c : CEX X.K W te f
theorem DS.x (h : DS X st t g) : DSX X W st t g := ⟨h.p, fun B0 H0 B H σ en o hE e Dn k _ => h.c B0 H0 B H σ en o hE e Dn k⟩
theorem DSs.x (h : DSs X sts t g) : DSXs X W sts t g := ⟨h.p, fun B0 H0 B H σ en o hE e Dn k _ => h.c B0 H0 B H σ en o hE e Dn k⟩
theorem dsxs_one (h : DSX X W st t g) : DSXs X W [st] t g := ⟨pss_one h.p, h.c⟩
theorem csx_seq (h1 : CSX K W t g) (h2 : CSX K W u h) : CSX K W (tSeq t u) (sSeq g h) := fun B0 H0 B H σ en o hE e Dn k kx => by
  obtain ⟨o1, e1, e⟩ := obind e
  cases o1 with
  | nx en1 => exact h1 B0 H0 B H σ en _ hE e1 _ (fun σ1 B1 H1 x1 hE1 => h2 B0 H0 B1 H1 σ1 en1 o hE1 e Dn (k.up x1) kx) trivial
  | bk en1 => cases e; exact h1 B0 H0 B H σ en _ hE e1 _ k trivial
  | ct en1 => cases e; exact h1 B0 H0 B H σ en _ hE e1 _ k trivial
  | rm t en1 => cases e; exact h1 B0 H0 B H σ en _ hE e1 _ k kx
  | rt d => cases e; exact h1 B0 H0 B H σ en _ hE e1 _ k kx
theorem dsxs_cons (h1 : DSX X W st t g) (h2 : DSXs X W sts u h) : DSXs X W (st :: sts) (tSeq t u) (sSeq g h) := ⟨pss_cons h1.p h2.p, csx_seq h1.c h2.c⟩
theorem dsx_if {sa sb : List Stmt} (hc : DT X c tt ft) (ha : DSXs X W sa t g) (hb : DSXs X W sb u h) : DSX X W (.If c sa sb pos) (tIfS tt t u) (sIf ft g h) := ⟨ps_if hc.p ha.p hb.p, fun B0 H0 B H σ en o hE e Dn k kx => by
  obtain ⟨b, e1, e⟩ := obind e
  refine hc.c B0 H0 B H σ en b hE e1 _ fun B1 H1 x => ?_
  cases b with
  | true => rw [if_pos rfl] at e ⊢; exact ha.c B0 H0 B1 H1 σ en o (hE.up x) e Dn (k.up x.bb) kx
  | false => rw [if_neg Bool.false_ne_true] at e ⊢; exact hb.c B0 H0 B1 H1 σ en o (hE.up x) e Dn (k.up x.bb) kx⟩
theorem DSX.frz (i : Nat) (h1 : DSX X W st t g) : DSX X W st t (fun en => g (DD.frz i en)) := ⟨h1.p, fun B0 H0 B H σ en o hE e Dn k kx => by
  obtain ⟨B', hx, hE'⟩ := hE.frz i
  exact h1.c B0 H0 B' H σ _ o hE' e Dn (k.up hx) kx⟩
theorem DSXs.frz (i : Nat) (h1 : DSXs X W sts t g) : DSXs X W sts t (fun en => g (DD.frz i en)) := ⟨h1.p, fun B0 H0 B H σ en o hE e Dn k kx => by
  obtain ⟨B', hx, hE'⟩ := hE.frz i
  exact h1.c B0 H0 B' H σ _ o hE' e Dn (k.up hx) kx⟩
@[simp] def fmtD : D → Bool
  | .str x => decide (x.length ≤ 1000)
  | .int i => decide (i.natAbs < 10 ^ 15)
  | _ => false
theorem fmt_rp {v : V} {d : D} (h : Rp K B v d) (f : fmtD d = true) : Fmt v := by
  unfold fmtD at f
  split at f
  · cases h
    exact .inl ⟨_, rfl, of_decide_eq_true f⟩
  · cases h
    exact .inr ⟨_, rfl, of_decide_eq_true f⟩
  · cases f
theorem fmt_rps : ∀ {vs : List V} {ds : List D}, RpAll K B vs ds → ds.all fmtD = true → ∀ x ∈ vs, Fmt x
  | _, _, .nil, _, x, hx => (nomatch hx)
  | _, _, .cons r t, f, x, hx => by
    rw [List.all_cons, Bool.and_eq_true] at f
    rcases List.mem_cons.mp hx with rfl | hx
    · exact fmt_rp r f.1
    · exact fmt_rps t f.2 x hx
structure ExcT (P : Program) (w : World) (K : PySem.W.Frag) (mg : Str → Option Value) (base : Heap) (c : Str) (names : List Str) (C f : Addr) (fd : FuncData) : Prop where
  ns : PySem.W.nsIn K mainGlobals c = some (some (.ref C))
  g : mg c = some (.ref C)
  oex : OexC K C
  iC : PySem.W.findIn K (.ref C) "__init__" = some (some (.ref f))
  tI : PySem.W.typeIn K (.ref f) = some (.type "function")
  ini : FnOk P w K mg base CX0 1 f fd (("self" : Str) :: names) (spI C names)
  b : Binds K fd (("self" : Str) :: names) []
  xf : XfC K C
  no : ∀ n ∈ names, PySem.W.findIn K (.ref C) n = some none
  exm : PySem.W.exmOne K (.ref C) (.ref C) = some true
@[simp] def sRaise (c : Str) (ns : List Str) (fr : En → Option (List D)) : En → Option Out := fun en => (fr en).bind fun ds => if ds.length = ns.length ∧ ds.all fmtD = true then some (.rt (excD c ns ds)) else none
theorem dsx_raise {c : Str} {names : List Str} {C f : Addr} {fd : FuncData} {p pos2 : Pos} (hc : X.calm = true) (tk : Takes X (fun cls d _ H => W cls d H)) (hr : Room 2 X.A) (E : ExcT X.prog X.w X.K X.mg X.base c names C f fd) (hg : Gl X c) (ha : DA X (e :: es) tr fr) (hn : names.length ≤ 1000 := by decide)
    (hdb : (c == ("__debug__" : Str)) = false := by decide) (he : starEach (e :: es) X.env = (false, eval e X.env) :: starEach es X.env := by rfl) (hpl : (backTo pos (starEach es X.env)).any (·.1) = false := by rfl) :
    DSX X W (.Raise (some (.Call (.Name c p) (e :: es) [] pos)) none pos2) (fun _ σ H => tMkO C (spI C names) [] tr σ H fun cls d H' => W cls d H') (sRaise c names fr) :=
  ⟨ps_raise hc tk (pmk_oex E.oex E.iC E.tI E.ini hr E.b .nil pass0 hg E.g ha.p hdb he hpl), fun B0 H0 B H σ en o hE q Dn k kx => by
    obtain ⟨ds, e1, q⟩ := obind q
    obtain ⟨⟨hl, hf⟩, rfl⟩ := oite q
    refine ha.c B0 H0 B H σ en ds hE e1 _ fun vs B1 H1 x r => ⟨?_, fun a hna => ?_⟩
    · rw [r.len, hl]; exact hn
    refine ⟨a, vs ++ [], rfl, by rw [List.append_nil, r.len]; exact hl, fun y hy => fmt_rps r hf y (by rw [List.append_nil] at hy; exact hy), upd_same, fun d hd hne => ?_⟩
    have hd1 : H1 d = none := by
      rw [upd_ne hne] at hd
      exact hd
    refine ⟨rfl, d, (names.zip (vs ++ [])).reverse, upd_same, ?_, hd1, ?_⟩
    · rw [upd_ne hne, upd_same]
    · have e2 : upd (del (upd (upd (upd H1 a (exo a C none)) d (exd d (names.zip (vs ++ [])).reverse)) a (exo a C (some d))) a) d (.xd (names.zip (vs ++ [])).reverse) = upd H1 d (.xd (names.zip (vs ++ [])).reverse) := by
        funext z
        by_cases h1 : z = d
        · subst h1
          rw [upd_same, upd_same]
        · rw [upd_ne h1, upd_ne h1]
          by_cases h2 : z = a
          · subst h2
            rw [del_same, hna]
          · rw [del_ne h2, upd_ne h2, upd_ne h1, upd_ne h2]
      rw [e2, List.append_nil]
      refine kx c names ds excOf_excD C E.ns B1 _ vs d ?_ upd_same r
      exact ((hE.ext.trans x)).trans (Ext.newM x.bh hd1)⟩

section
variable {F : List D → Option D} {k : Nat} {f : Addr} {fd : FuncData} {ps : List Str} {x : Str} {p : Pos}
end
theorem zip_look {n : Str} : ∀ {ns : List Str} {xs : List V} {j : Nat} {v : V}, ns.Nodup → ns[j]? = some n → xs[j]? = some v → ((ns.zip xs).reverse).lookup n = some v
  | [], _, _, _, _, h, _ => by simp at h
  | m :: ns, [], _, _, _, _, h => by simp at h
  | m :: ns, x :: xs, j, v, nd, h1, h2 => by
    obtain ⟨nd1, nd2⟩ := List.nodup_cons.mp nd
    rw [List.zip_cons_cons, List.reverse_cons, List.lookup_append]
    cases j with
    | zero =>
      cases h1
      cases h2
      have e : ((ns.zip xs).reverse).lookup n = none := by
        refine List.lookup_eq_none_iff.mpr fun p hp => ?_
        rw [List.mem_reverse] at hp
        have := (List.of_mem_zip hp).1
        refine bne_iff_ne.mpr fun z => nd1 ?_
        rw [z]
        exact this
      rw [e]
      simp [List.lookup]
    | succ j =>
      rw [zip_look (n := n) nd2 (by simpa using h1) (by simpa using h2)]
      rfl
section
variable {F : List D → Option D} {k : Nat} {f C fI : Addr} {fd fdI : FuncData} {ps names : List Str} {x n c fl fl2 : Str} {p q1 q2 q3 q4 q5 pos1 pos2 np pos' post : Pos} {i j j2 : Nat}
end
end
theorem exm_of {K : PySem.W.Frag} {C : Addr} (hb : PySem.W.subIn K (.ref C) (.type "BaseException") = some true) (hc : PySem.W.isClsIn K C = true) (ht : PySem.W.typeIn K (.ref C) = some (.type "type")) (hs : PySem.W.subIn K (.ref C) (.ref C) = some true) : PySem.W.exmOne K (.ref C) (.ref C) = some true := by
  unfold PySem.W.exmOne
  rw [hb, if_pos (by decide)]
  unfold PySem.W.kitCls
  have q : ((PySem.W.clsIn K C).isSome && PySem.W.typeIn K (.ref C) == some (.type "type")) = true := by
    rw [ht, Bool.and_eq_true]
    exact ⟨hc, by decide⟩
  dsimp only
  rw [if_pos q]
  exact hs
theorem binds_ks {K : PySem.W.Frag} {fd : FuncData} {ps : List Str} (h : ∀ us : List Value, us.length = ps.length → bindArgs fd ⟨us, []⟩ = pure (ps.zip us)) : Binds K fd ps [] := .all h
end DD

namespace DD
open PySem PySem.Spec PyProof.Rows L2 Evl
def leD (d e : D) : Bool := PySem.W.dataLe false py d e
def shpT : D → Bool
  | .tup (_ :: _) => true
  | _ => false
def shpO : D → Bool
  | .int _ => true
  | .str _ => true
  | .bl _ => true
  | .lst _ => true
  | _ => false
def srtOk (ds : List D) : Bool := deepAll 58 ds && ((ds.all shpT || ds.all shpO) && ds.all fun d => ds.all fun e => PySem.W.alike (py d) (py e))
def lSrt (fa : En → Option D) : En → Option (List D) := fun en => (fa en).bind fun
  | .lst ds => if srtOk ds = true then some (ds.mergeSort leD) else none
  | _ => none
section
variable {K : PySem.W.Frag} {X : Cx} {pos : Pos} {a : Expr} {ta : TE} {fa : En → Option D} {B H : Hp}
theorem deepAll_mem {n : Nat} : ∀ {ds : List D}, deepAll n ds = true → ∀ d ∈ ds, deep n d = true
  | [], _, _, h => nomatch h
  | e :: ds, h, d, hd => by
    rw [deepAll, Bool.and_eq_true] at h
    rcases List.mem_cons.mp hd with rfl | hd
    · exact h.1
    · exact deepAll_mem h.2 d hd
theorem srt_parts {ds : List D} (h : srtOk ds = true) : deepAll 58 ds = true ∧ PySem.W.AllAlike (ds.map py) ∧ PySem.W.Sortable (ds.map py) := by
  unfold srtOk at h
  rw [Bool.and_eq_true, Bool.and_eq_true, Bool.or_eq_true] at h
  obtain ⟨h1, h2, h3⟩ := h
  refine ⟨h1, fun x hx y hy => ?_, ?_⟩
  · obtain ⟨d, hd, rfl⟩ := List.mem_map.mp hx
    obtain ⟨e, he, rfl⟩ := List.mem_map.mp hy
    rw [List.all_eq_true] at h3
    have z := h3 d hd
    rw [List.all_eq_true] at z
    exact z e he
  · rcases h2 with h2 | h2
    · refine .inl fun x hx => ?_
      obtain ⟨d, hd, rfl⟩ := List.mem_map.mp hx
      rw [List.all_eq_true] at h2
      have z := h2 d hd
      unfold shpT at z
      split at z
      · rename_i d0 r
        exact ⟨py d0, pyAll r, by simp [py, pyAll]⟩
      · cases z
    · refine .inr fun x hx => ?_
      obtain ⟨d, hd, rfl⟩ := List.mem_map.mp hx
      rw [List.all_eq_true] at h2
      have z := h2 d hd
      unfold shpO at z
      split at z
      · exact ⟨fun q => by simp [py] at q, fun xs q => by simp [py] at q⟩
      · exact ⟨fun q => by simp [py] at q, fun xs q => by simp [py] at q⟩
      · exact ⟨fun q => by simp [py] at q, fun xs q => by simp [py] at q⟩
      · exact ⟨fun q => by simp [py] at q, fun xs q => by simp [py] at q⟩
      · cases z
end
end DD

namespace DD
open PySem PySem.Spec PyProof.Rows L2 Evl
section
variable {K : PySem.W.Frag} {X : Cx} {pos : Pos} {a : Expr} {ta : TE} {fa : En → Option D}
end
end DD

namespace DD
open PySem PySem.Spec PyProof.Rows L2 Evl
section
variable {K : PySem.W.Frag} {X : Cx} {pos : Pos} {e : Expr} {es : List Expr} {tr : TA} {fr : En → Option (List D)}
end
end DD

namespace DD
open PySem PySem.Spec PyProof.Rows L2 Evl
section
variable {K : PySem.W.Frag} {X : Cx} {pos : Pos} {a b : Expr} {ta tb : TE} {fa fb : En → Option D}
end
end DD

namespace DD
open PySem PySem.Spec PyProof.Rows L2 Evl
section
variable {K : PySem.W.Frag} {X : Cx} {pos : Pos} {a b : Expr} {ta tb : TE} {fa fb : En → Option D}
end
structure KwOnly (K : PySem.W.Frag) (fd : FuncData) (ps : List Str) (n : Nat) (kn : Str) (b : Bool) (dv : List Value) : Prop where
  val : Vals [V.bl b] dv
  bind : Binds K fd ps dv
  kbn : KBn K fd ps n [kn] (fun us ws => us ++ ws) (fun vs zs => vs ++ zs)
end DD

namespace DD
open PySem PySem.Spec PyProof.Rows L2 Evl
section
variable {K : PySem.W.Frag} {X : Cx} {pos : Pos} {a b : Expr} {ta tb : TE} {fa fb : En → Option D}
end
end DD

namespace DD
open PySem PySem.Spec PyProof.Rows L2 Evl
section
variable {K : PySem.W.Frag} {X : Cx} {pos : Pos} {a : Expr} {ta : TE} {fa : En → Option D} {B H : Hp}
end
end DD

namespace DD
open PySem PySem.Spec PyProof.Rows L2 Evl
section
variable {K : PySem.W.Frag} {X : Cx} {pos : Pos} {tg a e : Expr} {ta te : TE} {fa f : En → Option D} {tt : TT} {ft : En → Option Bool}
variable {B H : Hp} {d : Addr} {od : Obj} {kvs : List (List Key × V)}
def NF (u : HO) : Prop := ∀ o w, u ≠ .frz o w
mutual
theorem Rp.rd {B B' : Hp} (e : ∀ a u, NF u → Rd B a u → Rd B' a u) (et : ∀ a xs, B a = some (.tup xs) → B' a = some (.tup xs)) : ∀ (d : D) (v : V), Rp K B v d → Rp K B' v d
  | .non, _, h => by cases h; exact .non
  | .bl _, _, h => by cases h; exact .bl _
  | .int _, _, h => by cases h; exact .int _
  | .str _, _, h => by cases h; exact .str _
  | .lst ds, _, h => by
    cases h with
    | lst a b => exact .lst (a.elim (fun a => .inl (e _ _ (fun _ _ z => nomatch z) a)) .inr) (RpAll.rd e et ds _ b)
  | .tup ds, _, h => by cases h with | tup a b => exact .tup (et _ _ a) (RpAll.rd e et ds _ b)
  | .ctp ds, _, h => by
    cases h with
    | ctp a b => exact .ctp (a.elim (fun a => .inl (e _ _ (fun _ _ z => nomatch z) a)) .inr) (RpAll.rd e et ds _ b)
  | .dic _ ds, _, h => by cases h with | dic a b => exact .dic (e _ _ (fun _ _ z => nomatch z) a) (RpAll.rd e et ds _ b)
  | .dit _ ds, _, h => by cases h with | dit a b => exact .dit (e _ _ (fun _ _ z => nomatch z) a) (RpAll.rd e et ds _ b)
  | .fn _, _, h => by cases h with | fn _ a => exact .fn _ a
theorem RpAll.rd {B B' : Hp} (e : ∀ a u, NF u → Rd B a u → Rd B' a u) (et : ∀ a xs, B a = some (.tup xs) → B' a = some (.tup xs)) : ∀ (ds : List D) (vs : List V), RpAll K B vs ds → RpAll K B' vs ds
  | [], _, h => by cases h; exact .nil
  | d :: ds, _, h => by cases h with | cons a b => exact .cons (Rp.rd e et d _ a) (RpAll.rd e et ds _ b)
end
end
section
variable {K : PySem.W.Frag} {B H B' H' B0 : Hp} {H0 : HB} {d : Addr} {od : Obj} {kvs : List (List Key × V)}
open Classical in
noncomputable def lk (d : Addr) (od : Obj) (kvs : List (List Key × V)) (M : Hp) : Hp := fun a => if a = d ∧ M d = some (.dT kvs) then some (.frz od (.dT kvs)) else M a
end
section
variable {K : PySem.W.Frag} {X : Cx} {pos : Pos} {tg a e : Expr} {ta te : TE} {fa f : En → Option D} {tt : TT} {ft : En → Option Bool}
variable {B H : Hp} {d : Addr} {od : Obj} {kvs : List (List Key × V)}
theorem oite' {α : Type} {c : Prop} [Decidable c] {a : Option α} {b : α} (h : (if c then a else none) = some b) : c ∧ a = some b := by
  by_cases hc : c
  · rw [if_pos hc] at h; exact ⟨hc, h⟩
  · rw [if_neg hc] at h; cases h
end
end DD

namespace DD
open PySem PySem.Spec PyProof.Rows L2 Evl
section
variable {K : PySem.W.Frag} {X : Cx} {pos : Pos} {a : Expr} {ta : TE} {fa : En → Option D} {B H : Hp}
def pairOf : D → Option (Key × D)
  | .tup [x, y] => (keyOf x).map fun k => (k, y)
  | _ => none
def pairsOf : List D → Option (List (Key × D))
  | [] => some []
  | d :: ds => (pairOf d).bind fun p => (pairsOf ds).map fun r => p :: r
def dDictP (fa : En → Option D) : En → Option D := fun en => (fa en).bind fun
  | .lst ds => (pairsOf ds).bind fun r => if (r.map (·.1)).Nodup then some (.dic (r.map (·.1)) (r.map (·.2))) else none
  | _ => none
theorem pair_rp {v : V} {d : D} {p : Key × D} (r : Rp K B v d) (e : pairOf d = some p) : ∃ q y, v = .ref q ∧ SqT K B q [kV p.1, y] ∧ Rp K B y p.2 := by
  unfold pairOf at e
  split at e
  · obtain ⟨k, e1, rfl⟩ := omap e
    cases r with
    | tup s q =>
      cases q with
      | cons r1 q =>
        cases q with
        | cons r2 q =>
          cases q
          rw [key_of_rp r1 e1] at s
          exact ⟨_, _, rfl, .inl (.inl s), r2⟩
  · cases e
theorem pairs_rp : ∀ {ds : List D} {vs : List V} {r : List (Key × D)}, RpAll K B vs ds → pairsOf ds = some r → ∃ (ps : List Addr) (kvs : List (Key × V)), vs = ps.map V.ref ∧ Paired (fun p (kv : Key × V) => SqT K B p [kV kv.1, kv.2]) ps kvs ∧ kvs.map (·.1) = r.map (·.1) ∧ RpAll K B (kvs.map (·.2)) (r.map (·.2))
  | _, _, _, .nil, e => by
    cases e
    exact ⟨[], [], rfl, .nil, rfl, .nil⟩
  | _, _, _, .cons h t, e => by
    obtain ⟨p, e1, e⟩ := obind e
    obtain ⟨r, e2, rfl⟩ := omap e
    obtain ⟨q, y, rfl, s, ry⟩ := pair_rp h e1
    obtain ⟨ps, kvs, rfl, pp, ek, rr⟩ := pairs_rp t e2
    exact ⟨q :: ps, (p.1, y) :: kvs, rfl, .cons s pp, by rw [List.map_cons, List.map_cons, ek], .cons ry rr⟩
theorem merge_nd : ∀ (kvs acc : List (Key × V)), ((acc ++ kvs).map (·.1)).Nodup → kvs.foldl (fun acc kv => putK acc kv.1 kv.2) acc = acc ++ kvs
  | [], acc, _ => (List.append_nil acc).symm
  | (k, v) :: r, acc, h => by
    have hk : (acc.any fun kv => decide (kv.1 = k)) = false := by
      rw [List.any_eq_false]
      intro kv hm z
      rw [decide_eq_true_eq] at z
      rw [List.map_append, List.nodup_append] at h
      exact h.2.2 kv.1 (List.mem_map_of_mem hm) k List.mem_cons_self z
    have e : putK acc k v = acc ++ [(k, v)] := by
      unfold putK
      rw [hk, if_neg Bool.false_ne_true]
    rw [List.foldl_cons, e, merge_nd r (acc ++ [(k, v)]) (by rw [List.append_assoc]; exact h), List.append_assoc] <;> rfl
theorem sqT_up {B' : Hp} (e : Ex B B') {p : Addr} {xs : List V} (h : SqT K B p xs) : SqT K B' p xs := ex_t e h
theorem paired_up {B' : Hp} (e : Ex B B') : ∀ {ps : List Addr} {kvs : List (Key × V)}, Paired (fun p (kv : Key × V) => SqT K B p [kV kv.1, kv.2]) ps kvs → Paired (fun p (kv : Key × V) => SqT K B' p [kV kv.1, kv.2]) ps kvs
  | _, _, .nil => .nil
  | _, _, .cons h t => .cons (sqT_up e h) (paired_up e t)
def rDictP (K : PySem.W.Frag) : List V → Hp → VK → Prop := fun xs H Q => ∃ a ps kvs, xs = [V.ref a] ∧ SqL K H a (List.map V.ref ps) ∧ Paired (fun p (kv : Key × V) => SqT K H p [kV kv.1, kv.2]) ps kvs ∧ ∀ (p : Addr), H p = none → Q (V.ref p) (upd H p (HO.dK (mergeK [] kvs)))
theorem de_dictP {p : Pos} (hK : X.K = K) (hc : X.calm = true) (hg : Gl X "dict") (hm : X.mg "dict" = none) (ha : DE X a ta fa) (hs : starEach [a] X.env = (false, eval a X.env) :: starEach [] X.env := by rfl) (hpl : (backTo pos (starEach [] X.env)).any (·.1) = false := by rfl) :
    DE X (.Call (.Name "dict" p) [a] [] pos) (tCB (rDictP K) (tCons ta tNil)) (dDictP fa) := by
  subst hK
  exact ⟨pe_callTy (call_dictP hc) hg hm (by decide +kernel) (pa_cons ha.p pa_nil hs) (by decide) (by decide) hs hpl, fun B0 H0 B H σ en d hE e Q k => by
    obtain ⟨x, e1, e⟩ := obind e
    refine ha.c B0 H0 B H σ en x hE e1 _ fun v B1 H1 x1 r => ?_
    split at e
    · obtain ⟨r', e2, e⟩ := obind e
      obtain ⟨nd, rfl⟩ := oite e
      cases r with
      | lst s q =>
        obtain ⟨ps, kvs, rfl, pp, ek, rr⟩ := pairs_rp q e2
        refine ⟨_, ps, kvs, rfl, ex_l x1.bh s, paired_up x1.bh pp, fun p hn => ?_⟩
        have em : mergeK [] kvs = kvs := merge_nd kvs [] (by rw [List.nil_append, ek]; exact nd)
        rw [em]
        have nw : Rp X.K (upd B1 p (.dK kvs)) (.ref p) (.dic (kvs.map (·.1)) (r'.map (·.2))) := .dic (.inl upd_same) (rr.up (Ex.new (fresh_back x1.bh hn)))
        rw [ek] at nw
        exact k _ _ _ (x1.trans (Ext.new x1.bh hn)) nw
    · cases e⟩
variable {tg b c e : Expr} {tb tc te : TE} {fb fc f : En → Option D} {tt : TT} {ft : En → Option Bool}
end
end DD

namespace DD
open PySem PySem.Spec PyProof.Rows L2 Evl
section
variable {K : PySem.W.Frag} {X : Cx} {pos : Pos} {a : Expr} {ta : TE} {fa : En → Option D}
end
end DD

namespace NC
open PySem PySem.Spec PyProof.Rows L2

structure CompE (e : Expr) : Prop where
  loop : ∀ (prog : Program) (w : World) (A : Around) (j : Nat) (it acc : Value) (env : Env) (Q : Fin → Shared → Prop) (E : Value → Shared → Prop) (s : Shared), wpAny (model prog w) A ((compTurn e j it acc env).onRaise (fun x => do noteFrame x env; theTreesLotGoes x)) Q E s → wpAny (model prog w) (A.under (.compLoop e j it acc env)) ((model prog w).den (.compLoop e j it acc env)) Q E s
  start : ∀ (prog : Program) (w : World) (A : Around) (j : Nat) (it acc : Value) (env : Env) (Q : Fin → Shared → Prop) (E : Value → Shared → Prop) (s : Shared), wpAny (model prog w) A ((compStart e j it acc env).onRaise (fun x => do noteFrame x env; standAt theWindowsPlace)) Q E s → wpAny (model prog w) (A.under (.compStart e j it acc env)) ((model prog w).den (.compStart e j it acc env)) Q E s
  quiet : ∀ (j : Nat) (it acc : Value) (env : Env), (Code.compLoop e j it acc env).quiet = true
section
variable {prog : Program} {w : World} {A : Around} {R : Result → Shared → Prop} {s : Shared}
end
abbrev TB := Addr → L2.St → Hp → (Hp → Prop) → Prop
structure PB (X : Cx) (body : Value → Env → Sem Unit) (vs : List Nat) (tb : TB) : Prop where
  run : ∀ (pins : List (Addr × Obj)) (s : Shared) (σ : L2.St) (H : Hp) (D : Addr) (Nx : Hp → Prop), Inv X pins σ H s → tb D σ H Nx →
    wpAny (model X.prog X.w) X.A (body (.ref D) X.env) (fun _ s' => ∃ H', Inv X pins (wipe σ vs) H' s' ∧ Nx H') (fun _ _ => False) s
def tB (wi : TI) (g : TG) (tt : TT) (vs : List Nat) (tb : TB) : TB := fun D σ H Nx => wi σ H fun J H1 => ∃ W : Nat → Nat → Hp → Prop, (∃ m, W 0 m H1) ∧ ∀ i m H2, W i m H2 →
  (J.stop i H2 ∧ Nx H2) ∨ (J.go i H2 ∧ ∃ N1 : Hp → Prop, (∀ H', N1 H' → ∃ m', m' < m ∧ W (i + 1) m' H') ∧ ∀ x H', J.yld i H2 x H' → g x (wipe σ vs) H' fun σ3 H3 => wipe σ3 vs = wipe σ vs ∧ tt σ3 H3 fun b H4 =>
    if b = true then tb D σ3 H4 N1 else N1 H4)
section
variable {X : Cx}
end
end NC

namespace DD
open PySem PySem.Spec PyProof.Rows L2 Evl NC
section
variable {K : PySem.W.Frag} {X : Cx} {pos : Pos} {tg : Expr} {te tk tv : TE} {f fk fv : En → Option D} {tt : TT} {ft : En → Option Bool}
def CB (K : PySem.W.Frag) (tb : TB) (F : En → Option (List D)) : Prop := ∀ B0 H0 B1 H1 B H σ en out D acc ads, EnOk K B0 H0 B H σ en → calmE en = true → F en = some out → Ext B0 H0 B1 H1 → H1 D = none → Ext B1 H1 B H → B D = none → H D = some (.lst acc) → RpAll K B acc ads → ads.length + out.length ≤ lim →
  ∀ Nx : Hp → Prop, (∀ B' H' acc', Ext B1 H1 B' H' → Ex B B' → B' D = none → H' D = some (.lst acc') → RpAll K B' acc' (ads ++ out) → Nx H') → tb D σ H Nx
structure DB (X : Cx) (body : Value → Env → Sem Unit) (vs : List Nat) (tb : TB) (F : En → Option (List D)) : Prop where
  p : PB X body vs tb
  c : CB X.K tb F
end
end DD

namespace DD
open PySem PySem.Spec PyProof.Rows L2 Evl NC
abbrev KD := List (List Key) × List D
section
variable {K : PySem.W.Frag} {X : Cx} {pos : Pos} {tg : Expr} {te tk tv : TE} {f fk fv : En → Option D} {tt : TT} {ft : En → Option Bool}
def CDt (K : PySem.W.Frag) (te : TE) (F : En → Option KD) : Prop := ∀ B0 H0 B H σ en a, EnOk K B0 H0 B H σ en → F en = some a → ∀ Q : VK, (∀ p kvs B' H', Ext B H B' H' → H p = none → B' p = none → H' p = some (.dT kvs) → kvs.map (·.1) = a.1 → RpAll K B' (kvs.map (·.2)) a.2 → Q (.ref p) H') → te σ H Q
structure DDt (X : Cx) (e : Expr) (te : TE) (F : En → Option KD) : Prop where
  p : PE X e te
  c : CDt X.K te F
end
end DD

namespace DD
open PySem PySem.Spec PyProof.Rows L2 Evl
section
variable {K : PySem.W.Frag} {X : Cx} {pos : Pos} {e : Expr} {te : TE} {f fk fv : En → Option D} {B H B0 B1 : Hp} {H0 : HB}
end
end DD

namespace DD
open PySem PySem.Spec PyProof.Rows L2 Evl
section
variable {K : PySem.W.Frag} {X : Cx} {pos : Pos} {a b : Expr} {ta tb : TE} {fa fb : En → Option D} {B H : Hp}
end
end DD

namespace DD
open PySem PySem.Spec PyProof.Rows L2 Evl
section
variable {X : Cx} {pins : List (Addr × Obj)} {σ : L2.St} {H : Hp} {s : Shared} {d : Addr} {o : Obj}
end
section
variable {P : Program} {w : World} {K : PySem.W.Frag} {tg : Expr} {d : Addr} {o : Obj} {es : Array DictEntry} {ep : Nat}
end
section
variable {X : Cx} {tg e : Expr} {td : TE} {apos cpos : Pos}
end
section
variable {K : PySem.W.Frag} {B H B' H' B0 : Hp} {H0 : HB} {d : Addr} {od : Obj} {kvs : List (List Key × V)}
end
section
variable {K : PySem.W.Frag} {X : Cx} {pos : Pos} {tg e : Expr} {t te : TE} {f f' : En → Option D} {tt : TT} {ft : En → Option Bool}
end
end DD

namespace DD
open PySem PySem.Spec PyProof.Rows L2 Evl
section
variable {K : PySem.W.Frag} {B H B' H' : Hp}
theorem Ow.ext (x : Ext B H B' H') (t : Tr) (v : V) (A : List Addr) (w : Ow K B H t v A) : Ow K B' H' t v A := Ow.mono x.bb t v A w fun q hq => by
  obtain ⟨a, b⟩ := Ow.free t v A w q hq
  refine ⟨?_, (x.st q b).trans a⟩
  cases c : H q with
  | none => exact absurd c b.1
  | some u => exact x.hh q u c
theorem OwAll.ext (x : Ext B H B' H') (t : List Tr) (v : List V) (A : List Addr) (w : OwAll K B H t v A) : OwAll K B' H' t v A := OwAll.mono x.bb t v A w fun q hq => by
  obtain ⟨a, b⟩ := OwAll.free t v A w q hq
  refine ⟨?_, (x.st q b).trans a⟩
  cases c : H q with
  | none => exact absurd c b.1
  | some u => exact x.hh q u c
theorem OwAll.len : ∀ {ts : List Tr} {vs : List V} {A : List Addr}, OwAll K B H ts vs A → vs.length = ts.length
  | [], _, _, h => by cases h; rfl
  | _ :: _, _, _, h => by cases h with | cons a b c => rw [List.length_cons, List.length_cons, OwAll.len b]
theorem OwAll.hole : ∀ {ts : List Tr} {vs : List V} {A : List Addr} {n : Nat} {t : Tr}, OwAll K B H ts vs A → ts[n]? = some t → ∃ u Au, vs[n]? = some u ∧ Ow K B H t u Au ∧ (∀ q ∈ Au, q ∈ A) ∧
    ∀ (B' H' : Hp) (t' : Tr) (u' : V) (Au' : List Addr), Ex B B' → (∀ q ∈ A, q ∉ Au → H' q = H q ∧ B' q = none) → Ow K B' H' t' u' Au' → (∀ q ∈ Au', q ∈ Au ∨ H q = none) → ∃ A', OwAll K B' H' (ts.set n t') (vs.set n u') A' ∧ ∀ q ∈ A', q ∈ A ∨ H q = none
  | [], _, _, _, _, h, e => by rw [List.getElem?_nil] at e; cases e
  | t0 :: ts, _, _, 0, t, h, e => by
    rw [List.getElem?_cons_zero] at e
    cases e
    cases h with
    | cons a b c =>
      rename_i v vs A1 A2
      refine ⟨v, A1, rfl, a, fun q hq => List.mem_append_left _ hq, fun B' H' t' u' Au' hB hk w f => ?_⟩
      have b' := OwAll.mono hB ts vs A2 b fun q hq => hk q (List.mem_append_right _ hq) fun z => c q z hq
      refine ⟨Au' ++ A2, .cons w b' fun q hq z => ?_, fun q hq => ?_⟩
      · rcases f q hq with g | g
        · exact c q g z
        · exact (OwAll.free ts vs A2 b q z).2.1 g
      · rcases List.mem_append.mp hq with hq | hq
        · exact (f q hq).imp (List.mem_append_left _) id
        · exact .inl (List.mem_append_right _ hq)
  | t0 :: ts, _, _, n + 1, t, h, e => by
    rw [List.getElem?_cons_succ] at e
    cases h with
    | cons a b c =>
      rename_i v vs A1 A2
      obtain ⟨u, Au, h1, h2, h3, h4⟩ := OwAll.hole b e
      refine ⟨u, Au, h1, h2, fun q hq => List.mem_append_right _ (h3 q hq), fun B' H' t' u' Au' hB hk w f => ?_⟩
      have a' := Ow.mono hB t0 v A1 a fun q hq => hk q (List.mem_append_left _ hq) fun z => c q hq (h3 q z)
      obtain ⟨A', h5, h6⟩ := h4 B' H' t' u' Au' hB (fun q hq z => hk q (List.mem_append_right _ hq) z) w f
      refine ⟨A1 ++ A', .cons a' h5 fun q hq z => ?_, fun q hq => ?_⟩
      · rcases h6 q z with g | g
        · exact c q hq g
        · exact (Ow.free t0 v A1 a q hq).2.1 g
      · rcases List.mem_append.mp hq with hq | hq
        · exact .inl (List.mem_append_left _ hq)
        · exact (h6 q hq).imp (List.mem_append_right _) id
theorem OwAll.snoc : ∀ {ts : List Tr} {vs : List V} {A Au : List Addr} {t : Tr} {u : V}, OwAll K B H ts vs A → Ow K B H t u Au → (∀ q ∈ A, q ∉ Au) → OwAll K B H (ts ++ [t]) (vs ++ [u]) (A ++ Au)
  | [], _, _, _, _, _, h, w, c => by
    cases h
    have := OwAll.cons w .nil fun _ _ z => List.not_mem_nil z
    rw [List.append_nil] at this
    exact this
  | t0 :: ts, _, _, _, _, _, h, w, c => by
    cases h with
    | cons a b d =>
      rw [List.append_assoc]
      exact .cons a (OwAll.snoc b w fun q hq => c q (List.mem_append_right _ hq)) fun q hq z => (List.mem_append.mp z).elim (d q hq) (c q (List.mem_append_left _ hq))
end
theorem EnOk.newT {K : PySem.W.Frag} {B0 B H B' H' : Hp} {H0 : HB} {σ : L2.St} {en : En} (h : EnOk K B0 H0 B H σ en) (x : Ext B H B' H') (i : Nat) {t : Tr} {v : V} {A : List Addr} (w : Ow K B' H' t v A) (f : ∀ q ∈ A, H q = none) : EnOk K B0 H0 B' H' (σ.set i (some v)) (en.set i (.tre t)) := by
  have ft : ∀ q, Ft K B' H' (.tre t) (some v) q → q ∈ A := fun q ⟨v2, A2, e2, w2, hq⟩ => by
    cases e2
    rw [Ow.det t v _ _ w2 w] at hq
    exact hq
  exact (h.up x).put i ⟨v, A, rfl, w⟩ (fun q g => fresh_back h.ext.hh (f q (ft q g))) fun j sj oj _ a b q g => h.nref (f q (ft q g)) x j sj oj a b
def rowsT (rows : List (List D)) : Tr := .ls (rows.map fun r => .ls (r.map .lf))
section
variable {K : PySem.W.Frag} {X : Cx} {pos : Pos} {tg a b c e : Expr} {ta tb te t1 t2 t3 : TE} {fa fb f f1 f2 f3 : En → Option D}
end
end DD

namespace DD
open PySem PySem.Spec PyProof.Rows L2 Evl
section
variable {K : PySem.W.Frag} {B H : Hp} {d : Addr} {od : Obj} {kvs : List (Key × V)}
end
section
variable {K : PySem.W.Frag} {B H B' H' B0 : Hp} {H0 : HB} {d : Addr} {od : Obj} {kvs : List (Key × V)}
end
section
variable {K : PySem.W.Frag} {X : Cx} {pos : Pos} {tg a e : Expr} {ta te : TE} {fa f : En → Option D} {tt : TT} {ft : En → Option Bool}
variable {B H : Hp} {d : Addr} {od : Obj} {kvs : List (Key × V)}
end
end DD

namespace DD
open PySem PySem.Spec PyProof.Rows L2 Evl
section
variable {K : PySem.W.Frag} {X : Cx} {pos : Pos} {a : Expr} {ta : TE} {fa : En → Option D} {B H : Hp}
end
end DD

namespace ZS
open PySem PySem.Spec PyProof.Rows L2 ZZ ZK
def SI (h : Heap) (it : Addr) (x : Str) (t : Tok) (i : Nat) : Prop := h.IsStrIter it (strIterType x) x t i
theorem SI.at {h h' : Heap} {it : Addr} {x : Str} {t : Tok} {i : Nat} (y : SI h it x t i) (e : ∀ o, h.get? it = some o → h'.get? it = some o) : SI h' it x t i := by
  obtain ⟨o, ho, r⟩ := y
  exact ⟨o, e o ho, r⟩
theorem SI.obj {h : Heap} {it : Addr} {x : Str} {t : Tok} {i : Nat} (y : SI h it x t i) : ∃ o, h.get? it = some o ∧ ∃ vs, o.data = .fields vs := by
  obtain ⟨o, ho, _, d⟩ := y
  exact ⟨o, ho, _, d⟩
section
variable {prog : Program} {w : World} {A : Around} {E : Value → Shared → Prop}
structure Ap (z TI TO i1 i2 l2 : Addr) : Prop where
  a1 : TI ≠ z
  a2 : TO ≠ z
  a3 : i1 ≠ z
  a4 : i2 ≠ z
  b1 : TI ≠ TO
  b2 : TO ≠ i1
  b3 : TO ≠ i2
  b4 : TI ≠ i1
  b5 : TI ≠ i2
  c1 : i1 ≠ i2
  d3 : l2 ≠ z
  d4 : l2 ≠ TO
  d5 : l2 ≠ i1
end
section
variable {prog : Program} {w : World} {A : Around} {E : Value → Shared → Prop} {s : Shared}
end
end ZS

namespace ZS
open PySem PySem.Spec PyProof.Rows L2 ZZ ZK
section
variable {prog : Program} {w : World} {A : Around} {E : Value → Shared → Prop}
end
end ZS

namespace DD
open PySem PySem.Spec PyProof.Rows L2 Evl
section
variable {K : PySem.W.Frag} {X : Cx} {pos : Pos} {a b : Expr} {fr : En → Option (List D)} {tr : TA} {B H : Hp}
end
end DD

namespace DD
open PySem PySem.Spec PyProof.Rows L2 Evl
section
variable {K : PySem.W.Frag} {X : Cx} {pos : Pos} {c e : Expr} {te : TE} {f : En → Option D} {B H B0 B1 : Hp} {H0 : HB} {tt : TT} {ft : En → Option Bool} {t : TS} {g : En → Option Out}
def lfs : List Tr → Option (List D)
  | [] => some []
  | .lf d :: r => (lfs r).map (d :: ·)
  | _ => none
theorem lfs_map : ∀ ds : List D, lfs (ds.map .lf) = some ds
  | [] => rfl
  | d :: ds => by
    show (lfs (ds.map .lf)).map _ = _
    rw [lfs_map ds] <;> rfl
theorem lfs_some : ∀ {ts : List Tr} {ds : List D}, lfs ts = some ds → ts = ds.map .lf
  | [], _, h => by cases h; rfl
  | .lf d :: r, _, h => by
    obtain ⟨es, h1, rfl⟩ := omap h
    rw [lfs_some h1] <;> rfl
  | .ls _ :: _, _, h => by cases h
  | .dk _ _ :: _, _, h => by cases h
  | .dt _ _ :: _, _, h => by cases h
  | .ob _ _ _ :: _, _, h => by cases h
end
end DD

namespace DD
open PySem PySem.Spec PyProof.Rows L2 Evl
section
variable {K : PySem.W.Frag} {B H B' H' B0 : Hp} {H0 : HB} {σ : L2.St} {en : En}
theorem EnOk.chgB (h : EnOk K B0 H0 B H σ en) {i : Nat} {s0 s : Sl} {o : Option V} (e : en[i]? = some s0) (ho : σ[i]? = some o) (bb : Ex B B') (bh : Ex B' H') (hH : ∀ q, ¬ Ft K B H s0 o q → H q ≠ none → H' q = H q) (hB : ∀ q, ¬ Ft K B H s0 o q → Mt H q → B' q = B q) (hs : SlOk K B' H' s o)
    (hf : ∀ q, Ft K B' H' s o q → Ft K B H s0 o q ∨ H q = none) (np : ∀ t, s = .par t → ∃ t0, s0 = .par t0 := by intro _ z; cases z) (nr : ∀ t, s ≠ .ro t := by intro _ z; cases z) : EnOk K B0 H0 B' H' σ (en.set i s) := by
  have sl0 := h.slot i s0 o e ho
  have keep : ∀ (j : Nat) (sj : Sl) (oj : Option V), j ≠ i → en[j]? = some sj → σ[j]? = some oj → SlOk K B' H' sj oj ∧ ∀ q, Ft K B' H' sj oj q ↔ Ft K B H sj oj q := fun j sj oj ne a b => by
    have sj' := h.slot j sj oj a b
    refine sj'.mono bb fun q f => ?_
    have fr := sj'.free f
    have nf : ¬ Ft K B H s0 o q := fun g => ne (h.apart j i sj s0 oj o q a e b ho f g)
    exact ⟨hH q nf fr.2.1, (hB q nf fr.2).trans fr.1⟩
  have h0n : ∀ a, H0 a ≠ none → ¬ Ft K B H s0 o a := fun a z f => z (h.frs i s0 o a e ho f)
  have hh : ∀ a u, H a = some u → (¬ Ft K B H s0 o a) → H' a = some u := fun a u q f => by
    rw [hH a f (by rw [q]; exact fun z => nomatch z)]; exact q
  have new : ∀ (j : Nat) (sj : Sl) (oj : Option V), (en.set i s)[j]? = some sj → σ[j]? = some oj → (j = i ∧ sj = s ∧ oj = o) ∨ (j ≠ i ∧ en[j]? = some sj) := fun j sj oj a b => by
    rcases get_set a with ⟨rfl, rfl, _⟩ | ⟨ne, a'⟩
    · rw [ho] at b; cases b; exact .inl ⟨rfl, rfl, rfl⟩
    · exact .inr ⟨ne, a'⟩
  refine ⟨⟨h.ext.bb.trans bb, bh, fun a u q => hh a u (h.ext.hh a u q) (h0n a (by rw [q]; exact fun z => nomatch z)), fun q m => (hB q (h0n q m.1) (Ex.mt h.ext.hh m)).trans (h.ext.st q m)⟩, by rw [List.length_set, h.len], fun j sj oj a b => ?_, fun j k sj sk oj ok q a b c d f g => ?_, fun j sj oj q a b f => ?_, fun j t oj a b => ?_, fun j t oj a b => ?_⟩
  · rcases new j sj oj a b with ⟨rfl, rfl, rfl⟩ | ⟨ne, a'⟩
    · exact hs
    · exact (keep j sj oj ne a' b).1
  · have cross : ∀ (k : Nat) (sk : Sl) (ok : Option V), k ≠ i → en[k]? = some sk → σ[k]? = some ok → Ft K B' H' s o q → Ft K B' H' sk ok q → False := fun k sk ok ne b d f g => by
      have g' := ((keep k sk ok ne b d).2 q).mp g
      rcases hf q f with f' | f'
      · exact ne (h.apart k i sk s0 ok o q b e d ho g' f')
      · exact ((h.slot k sk ok b d).free g').2.1 f'
    rcases new j sj oj a c with ⟨rfl, rfl, rfl⟩ | ⟨n1, a'⟩
    · rcases new k sk ok b d with ⟨rfl, rfl, rfl⟩ | ⟨n2, b'⟩
      · rfl
      · exact (cross k sk ok n2 b' d f g).elim
    · rcases new k sk ok b d with ⟨rfl, rfl, rfl⟩ | ⟨n2, b'⟩
      · exact (cross j sj oj n1 a' c g f).elim
      · exact h.apart j k sj sk oj ok q a' b' c d (((keep j sj oj n1 a' c).2 q).mp f) (((keep k sk ok n2 b' d).2 q).mp g)
  · rcases new j sj oj a b with ⟨rfl, rfl, rfl⟩ | ⟨ne, a'⟩
    · rcases hf q f with f' | f'
      · exact h.frs j s0 oj q e ho f'
      · exact fresh_back h.ext.hh f'
    · exact h.frs j sj oj q a' b (((keep j sj oj ne a' b).2 q).mp f)
  · rcases new j _ oj a b with ⟨rfl, z, rfl⟩ | ⟨ne, a'⟩
    · obtain ⟨t0, z0⟩ := np t z.symm
      subst z0
      exact h.root j t0 oj e ho
    · exact h.root j t oj a' b
  · rcases new j _ oj a b with ⟨rfl, z, rfl⟩ | ⟨ne, a'⟩
    · exact (nr t z.symm).elim
    · exact h.ro j t oj a' b
end
def slT : Sl → Option Tr
  | .tre t => some t
  | .par t => some t
  | _ => none
def setS (s : Sl) (t : Tr) : Sl := match s with
  | .par _ => .par t
  | _ => .tre t
section
variable {K : PySem.W.Frag} {B H B' H' B0 : Hp} {H0 : HB} {σ : L2.St} {en : En}
theorem EnOk.own_tree (h : EnOk K B0 H0 B H σ en) {i : Nat} {s : Sl} {t : Tr} (e : en[i]? = some s) (hs : slT s = some t) : ∃ v A, σ[i]? = some (some v) ∧ Ow K B H t v A ∧ (∀ q, Ft K B H s (some v) q ↔ q ∈ A) ∧ ∀ q ∈ A, H0 q = none := by
  obtain ⟨o, ho⟩ := h.lt e
  have sl := h.slot i s o e ho
  cases s with
  | tre t' =>
    cases hs
    obtain ⟨v, A, rfl, w⟩ := sl
    have f : ∀ q, Ft K B H (.tre t) (some v) q ↔ q ∈ A := fun q => ⟨fun ⟨v2, A2, e2, w2, hq⟩ => by cases e2; rw [Ow.det t v _ _ w2 w] at hq; exact hq, fun hq => ⟨v, A, rfl, w, hq⟩⟩
    exact ⟨v, A, ho, w, f, fun q hq => h.frs i _ _ q e ho ((f q).mpr hq)⟩
  | par t' =>
    cases hs
    obtain ⟨v, A, rfl, w⟩ := sl
    have f : ∀ q, Ft K B H (.par t) (some v) q ↔ q ∈ A := fun q => ⟨fun ⟨v2, A2, e2, w2, hq⟩ => by cases e2; rw [Ow.det t v _ _ w2 w] at hq; exact hq, fun hq => ⟨v, A, rfl, w, hq⟩⟩
    exact ⟨v, A, ho, w, f, fun q hq => h.frs i _ _ q e ho ((f q).mpr hq)⟩
  | _ => cases hs
structure Aft (K : PySem.W.Frag) (B H : Hp) (A : List Addr) (B' H' : Hp) : Prop where
  bb : Ex B B'
  bh : Ex B' H'
  hh : ∀ q, q ∉ A → H q ≠ none → H' q = H q
  st : ∀ q, q ∉ A → Mt H q → B' q = B q
theorem EnOk.aft (h : EnOk K B0 H0 B H σ en) {i : Nat} {s : Sl} {t t' : Tr} {v : V} {A A' : List Addr} (e : en[i]? = some s) (hs : slT s = some t) (hv : σ[i]? = some (some v)) (w : Ow K B H t v A) (a : Aft K B H A B' H') (w' : Ow K B' H' t' v A') (f : ∀ q ∈ A', q ∈ A ∨ H q = none) : EnOk K B0 H0 B' H' σ (en.set i (setS s t')) := by
  obtain ⟨v2, A2, hv2, w2, f2, _⟩ := h.own_tree e hs
  rw [hv] at hv2
  cases hv2
  have := Ow.det t v _ _ w2 w
  subst this
  cases s with
  | tre t0 =>
    exact h.chgB e hv a.bb a.bh (fun q g => a.hh q fun z => g ((f2 q).mpr z)) (fun q g => a.st q fun z => g ((f2 q).mpr z)) (s := .tre t') ⟨v, A', rfl, w'⟩ fun q ⟨v3, A3, e3, w3, hq⟩ => by
      cases e3
      rw [Ow.det t' v _ _ w3 w'] at hq
      exact (f q hq).imp (fun z => (f2 q).mpr z) id
  | par t0 =>
    exact h.chgB e hv a.bb a.bh (fun q g => a.hh q fun z => g ((f2 q).mpr z)) (fun q g => a.st q fun z => g ((f2 q).mpr z)) (s := .par t') ⟨v, A', rfl, w'⟩ (fun q ⟨v3, A3, e3, w3, hq⟩ => by
      cases e3
      rw [Ow.det t' v _ _ w3 w'] at hq
      exact (f q hq).imp (fun z => (f2 q).mpr z) id) (fun _ _ => ⟨t0, rfl⟩)
  | _ => cases hs
end
section
variable {K : PySem.W.Frag} {X : Cx} {pos : Pos} {e : Expr} {te : TE} {f : En → Option D} {B H B0 B1 : Hp} {H0 : HB}
def sRetK (f : En → Option D) : En → Option Out := fun en => (f en).map fun d => .rm (.lf d) en
theorem ds_retK (he : DE X e te f) : DS X (.Return (some e) pos) (tRet te) (sRetK f) := ⟨ps_ret he.p, fun B0 H0 B H σ en o hE q Dn k => by
  obtain ⟨d, e1, rfl⟩ := omap q
  exact he.c B0 H0 B H σ en d hE e1 _ fun v B1 H1 x r => k v [] σ B1 H1 x.bb (hE.up x) (.lf r) fun q hq => (List.not_mem_nil hq).elim⟩
end
open Classical in
noncomputable def hole (H : Hp) (A : List Addr) : Hp := fun q => if q ∈ A then none else H q
theorem hole_in {H : Hp} {A : List Addr} {q : Addr} (h : q ∈ A) : hole H A q = none := by unfold hole; rw [if_pos h]
theorem hole_out {H : Hp} {A : List Addr} {q : Addr} (h : q ∉ A) : hole H A q = H q := by unfold hole; rw [if_neg h]
theorem hole_some {H : Hp} {A : List Addr} {q : Addr} {u : HO} (h : hole H A q = some u) : q ∉ A ∧ H q = some u := by
  by_cases c : q ∈ A
  · rw [hole_in c] at h; cases h
  · rw [hole_out c] at h; exact ⟨c, h⟩
def entryP (n j : Nat) (t : Tr) (ds : List D) : En := (ds.take j).map Sl.dat ++ .par t :: ((ds.drop j).map Sl.dat ++ List.replicate (n - ds.length - 1) .no)
def runP (g : En → Option Out) (n k j : Nat) (t : Tr) (ds : List D) : Option (D × Tr) := if ds.length + 1 = k ∧ j ≤ ds.length then (g (entryP n j t ds)).bind fun
  | .rm (.lf d) en => match en[j]? with
    | some (.par t') => some (d, t')
    | _ => none
  | .nx en => match en[j]? with
    | some (.par t') => some (.non, t')
    | _ => none
  | _ => none else none
def spP (K : PySem.W.Frag) (j : Nat) (F : Tr → List D → Option (D × Tr)) : Sp := fun vs H Q _ => ∃ B ds t v A d t', Ex B H ∧ vs[j]? = some v ∧ RpAll K B (vs.eraseIdx j) ds ∧ Ow K B H t v A ∧ F t ds = some (d, t') ∧
  ∀ u B' H' A', Aft K B H A B' H' → Rp K B' u d → Ow K B' H' t' v A' → (∀ q ∈ A', q ∈ A ∨ H q = none) → Q u H'
section
variable {K : PySem.W.Frag} {B H : Hp}
theorem erase_len {α : Type} {vs : List α} {j : Nat} {v : α} (h : vs[j]? = some v) : (vs.eraseIdx j).length + 1 = vs.length := by
  obtain ⟨hl, _⟩ := List.getElem?_eq_some_iff.mp h
  rw [List.length_eraseIdx, if_pos hl]
  omega
theorem entryP_get {n j : Nat} {t : Tr} {ds : List D} (hj : j ≤ ds.length) (i : Nat) {s : Sl} (h : (entryP n j t ds)[i]? = some s) : (i = j ∧ s = .par t) ∨ (i < j ∧ ∃ d, ds[i]? = some d ∧ s = .dat d) ∨ (j < i ∧ ((∃ d, ds[i - 1]? = some d ∧ s = .dat d) ∨ (ds.length < i ∧ s = .no))) := by
  have l1 : ((ds.take j).map Sl.dat).length = j := by rw [List.length_map, List.length_take]; omega
  unfold entryP at h
  by_cases c : i < j
  · rw [List.getElem?_append_left (by rw [l1]; exact c), List.getElem?_map, List.getElem?_take, if_pos c] at h
    obtain ⟨d, h1, rfl⟩ := omap h
    exact .inr (.inl ⟨c, d, h1, rfl⟩)
  · rw [List.getElem?_append_right (by rw [l1]; omega), l1] at h
    by_cases c2 : i = j
    · subst c2
      rw [Nat.sub_self, List.getElem?_cons_zero] at h
      exact .inl ⟨rfl, (Option.some.inj h).symm⟩
    · have e : i - j = (i - j - 1) + 1 := by omega
      rw [e, List.getElem?_cons_succ] at h
      refine .inr (.inr ⟨by omega, ?_⟩)
      by_cases c3 : i - j - 1 < ((ds.drop j).map Sl.dat).length
      · rw [List.getElem?_append_left c3, List.getElem?_map, List.getElem?_drop] at h
        obtain ⟨d, h1, rfl⟩ := omap h
        rw [show j + (i - j - 1) = i - 1 by omega] at h1
        exact .inl ⟨d, h1, rfl⟩
      · rw [List.getElem?_append_right (by omega), List.getElem?_replicate] at h
        rw [List.length_map, List.length_drop] at c3
        split at h
        · cases h; exact .inr ⟨by omega, rfl⟩
        · cases h
theorem entryP_ok {vs : List V} {ds : List D} {N : List Str} {j : Nat} {t : Tr} {v : V} {A : List Addr} (hB : Ex B H) (hv : vs[j]? = some v) (r : RpAll K B (vs.eraseIdx j) ds) (w : Ow K B H t v A) (hl : vs.length ≤ N.length) :
    EnOk K B ⟨hole H A, fun _ => v⟩ B H (L2.start N vs) (entryP N.length j t ds) := by
  have el := erase_len hv
  have rl := r.len
  have hj : j < vs.length := (List.getElem?_eq_some_iff.mp hv).1
  have hj' : j ≤ ds.length := by omega
  have st_get : ∀ i, i < vs.length → (L2.start N vs)[i]? = (vs[i]?).map some := fun i hi => by
    unfold L2.start
    rw [List.getElem?_append_left (by rw [List.length_map]; exact hi), List.getElem?_map]
  have er : ∀ i, (vs.eraseIdx j)[i]? = if i < j then vs[i]? else vs[i + 1]? := fun i => List.getElem?_eraseIdx
  have cs : ∀ (i : Nat) (s : Sl) (o : Option V), (entryP N.length j t ds)[i]? = some s → (L2.start N vs)[i]? = some o → (i = j ∧ s = .par t ∧ o = some v) ∨ (i ≠ j ∧ ((∃ d u, s = .dat d ∧ o = some u ∧ Rp K B u d) ∨ s = .no)) := fun i s o a b => by
    rcases entryP_get hj' i a with ⟨rfl, rfl⟩ | ⟨h1, d, h2, rfl⟩ | ⟨h1, ⟨d, h2, rfl⟩ | ⟨h2, rfl⟩⟩
    · rw [st_get i hj, hv] at b
      cases b
      exact .inl ⟨rfl, rfl, rfl⟩
    · obtain ⟨u, h3, h4⟩ := r.get i h2
      rw [er, if_pos h1] at h3
      rw [st_get i (by omega), h3] at b
      cases b
      exact .inr ⟨by omega, .inl ⟨d, u, rfl, rfl, h4⟩⟩
    · obtain ⟨u, h3, h4⟩ := r.get (i - 1) h2
      rw [er, if_neg (by omega), show i - 1 + 1 = i by omega] at h3
      rw [st_get i (List.getElem?_eq_some_iff.mp h3).1, h3] at b
      cases b
      exact .inr ⟨by omega, .inl ⟨d, u, rfl, rfl, h4⟩⟩
    · exact .inr ⟨by omega, .inr rfl⟩
  have ftA : ∀ q, Ft K B H (.par t) (some v) q → q ∈ A := fun q ⟨v2, A2, e2, w2, hq⟩ => by
    cases e2
    rw [Ow.det t v _ _ w2 w] at hq
    exact hq
  refine ⟨⟨Ex.refl _, hB, fun q u h => (hole_some h).2, fun _ _ => rfl⟩, ?_, fun i s o a b => ?_, fun i k si sk oi ok q a b c d f g => ?_, fun i s o q a b f => ?_, fun i t' o a b => ?_, fun i t' o a b => ?_⟩
  · unfold L2.start entryP
    rw [List.length_append, List.length_append, List.length_cons, List.length_append, List.length_map, List.length_map, List.length_map, List.length_replicate, List.length_replicate, List.length_take, List.length_drop]
    omega
  · rcases cs i s o a b with ⟨_, rfl, rfl⟩ | ⟨_, ⟨d, u, rfl, rfl, h4⟩ | rfl⟩
    · exact ⟨v, A, rfl, w⟩
    · exact ⟨u, rfl, h4⟩
    · trivial
  · rcases cs i si oi a c with ⟨e1, _⟩ | ⟨_, ⟨_, _, rfl, _⟩ | rfl⟩
    · rcases cs k sk ok b d with ⟨e2, _⟩ | ⟨_, ⟨_, _, rfl, _⟩ | rfl⟩
      · rw [e1, e2]
      · exact g.elim
      · exact g.elim
    · exact f.elim
    · exact f.elim
  · rcases cs i s o a b with ⟨_, rfl, rfl⟩ | ⟨_, ⟨_, _, rfl, _⟩ | rfl⟩
    · exact hole_in (ftA q f)
    · exact f.elim
    · exact f.elim
  · rcases cs i _ o a b with ⟨_, _, rfl⟩ | ⟨_, ⟨_, _, z, _⟩ | z⟩
    · rfl
    · cases z
    · cases z
  · rcases cs i _ o a b with ⟨_, z, _⟩ | ⟨_, ⟨_, _, z, _⟩ | z⟩ <;> cases z
theorem aft_of {B' H' : Hp} {A : List Addr} (x : Ext B (hole H A) B' H') : Aft K B H A B' H' := by
  refine ⟨x.bb, x.bh, fun q hq hn => ?_, fun q hq m => x.st q ?_⟩
  · cases c : H q with
    | none => exact absurd c hn
    | some u => exact x.hh q u (by rw [hole_out hq]; exact c)
  · exact ⟨by rw [hole_out hq]; exact m.1, fun xs => by rw [hole_out hq]; exact m.2 xs⟩
theorem fn_okP {P : Program} {w : World} {mg : Str → Option Value} {base : Heap} {x qual : Str} {st : Stmt} {f : Addr} {fd : FuncData} {N ps : List Str} {k j : Nat} {g : En → Option Out} (F : Fun K x qual st f fd) (S : FnScope N ps (defScope st)) (hps : ps.length ≤ N.length)
    (hbody : ∀ (cdv : Value) (A : Around) (outer : List Env) (s : Shared) (H : Hp) (E : XK), Room k (A.deeper (envOfC qual (defScope st) s.heap.objs.size f cdv)) →
      ∃ t, DSs (cxOf CX0 P w K mg base N qual (defScope st) f cdv A outer s H E).nox (defBody st) t g) : FnOk P w K mg base CX0 (k + 1) f fd ps (spP K j (runP g N.length ps.length j)) := by
  refine F.ok S (fun vs H Q E h => ?_) (fun cdv A outer s H vs Q E hr h => ?_)
  · obtain ⟨B, ds, t, v, A, d, t', _, hv, r, _, e, _⟩ := h
    unfold runP at e
    by_cases hl : ds.length + 1 = ps.length ∧ j ≤ ds.length
    · have := erase_len hv
      have := r.len
      omega
    · rw [if_neg hl] at e; cases e
  · obtain ⟨B, ds, tr, v, A1, d, tr', hB, hv, r, w1, e, kq⟩ := h
    obtain ⟨t, hd⟩ := hbody cdv A outer s H E hr
    refine ⟨t, hd.p, ?_⟩
    have el := erase_len hv
    have rl := r.len
    unfold runP at e
    by_cases hl : ds.length + 1 = ps.length ∧ j ≤ ds.length
    · rw [if_pos hl] at e
      obtain ⟨o, e1, e⟩ := obind e
      have fin : ∀ (u : V) (d : D) (t' : Tr) (σ' : L2.St) (en' : En) (B' H' : Hp), EnOk K B ⟨hole H A1, fun _ => v⟩ B' H' σ' en' → Rp K B' u d → (match en'[j]? with | some (.par t') => some (d, t') | _ => none) = some (d, t') → ∃ A', Aft K B H A1 B' H' ∧ Ow K B' H' t' v A' ∧ ∀ q ∈ A', q ∈ A1 ∨ H q = none := fun u d t' σ' en' B' H' hE ru e => by
        split at e
        · rename_i t2 hj
          cases e
          obtain ⟨v2, A2, h2, w2, f2, z2⟩ := hE.own_tree hj rfl
          have ro := hE.root j t' _ hj h2
          cases ro
          refine ⟨A2, aft_of hE.ext, w2, fun q hq => ?_⟩
          by_cases c : q ∈ A1
          · exact .inl c
          · have := z2 q hq
            have : hole H A1 q = none := this
            rw [hole_out c] at this
            exact .inr this
        · cases e
      refine hd.c B ⟨hole H A1, fun _ => v⟩ B H (L2.start N vs) (entryP N.length j tr ds) o (entryP_ok hB hv r w1 (by omega)) e1 _ ?_
      cases o with
      | nx en =>
        intro σ' B' H' x hE
        have e : (match en[j]? with | some (.par t') => some (D.non, t') | _ => none) = some (d, tr') := e
        have ed : d = .non := by
          split at e
          · cases e; rfl
          · cases e
        subst ed
        obtain ⟨A', a, w', f'⟩ := fin .non .non tr' σ' en B' H' hE .non e
        exact kq .non B' H' A' a .non w' f'
      | rt d => cases e
      | bk en => cases e
      | ct en => cases e
      | rm t2 en =>
        cases t2 with
        | lf d2 =>
          intro u A2 σ' B' H' x hE w2 _
          have e : (match en[j]? with | some (.par t') => some (d2, t') | _ => none) = some (d, tr') := e
          have ed : d = d2 := by
            split at e
            · cases e; rfl
            · cases e
          subst ed
          cases w2 with
          | lf r2 =>
            obtain ⟨A', a, w', f'⟩ := fin u d tr' σ' en B' H' hE r2 e
            exact kq u B' H' A' a r2 w' f'
        | ls a => cases e
        | dk a b => cases e
        | dt a b => cases e
        | ob a b c => cases e
    · rw [if_neg hl] at e; cases e
end
def CAP (K : PySem.W.Frag) (tr : TA) (fr : En → Option (List D)) (i j : Nat) : Prop := ∀ B0 H0 B H σ en ds, EnOk K B0 H0 B H σ en → fr en = some ds → ∀ v, σ[i]? = some (some v) → ∀ Q : List V → Hp → Prop, (∀ vs B' H', Ext B H B' H' → vs[j]? = some v → RpAll K B' (vs.eraseIdx j) ds → Q vs H') → tr σ H Q
structure DAP (X : Cx) (es : List Expr) (tr : TA) (fr : En → Option (List D)) (i j : Nat) : Prop where
  p : PA X es tr
  c : CAP X.K tr fr i j
section
variable {K : PySem.W.Frag} {X : Cx} {pos : Pos} {e : Expr} {es : List Expr} {te : TE} {tr : TA} {f : En → Option D} {fr : En → Option (List D)} {i j : Nat}
theorem dap_here (he : PE X e (tVar i)) (hr : DA X es tr fr) (hs : starEach (e :: es) X.env = (false, eval e X.env) :: starEach es X.env := by rfl) : DAP X (e :: es) (tCons (tVar i) tr) fr i 0 := ⟨pa_cons he hr.p hs, fun B0 H0 B H σ en ds hE e1 v hv Q k => by
  refine ⟨v, hv, ?_⟩
  refine hr.c B0 H0 B H σ en ds hE e1 _ fun vs B1 H1 x r => ?_
  exact k (v :: vs) B1 H1 x rfl r⟩
theorem call_core {F : Tr → List D → Option (D × Tr)} {B0 : Hp} {H0 : HB} {B H : Hp} {σ : L2.St} {en : En} {ds : List D} {s : Sl} {t t' : Tr} {d : D} (hE : EnOk K B0 H0 B H σ en) (ha : CAP K tr fr i j) (e1 : fr en = some ds) (e2 : en[i]? = some s) (e3 : slT s = some t) (e4 : F t ds = some (d, t')) {Q : VK}
    (k : ∀ u B' H', Ex B B' → EnOk K B0 H0 B' H' σ (en.set i (setS s t')) → Rp K B' u d → Q u H') : tCall (spP K j F) [] E0 tr σ H Q := by
  obtain ⟨v, A, hv, w, _, _⟩ := hE.own_tree e2 e3
  refine ha B0 H0 B H σ en ds hE e1 v hv _ fun vs B1 H1 x hj r => ?_
  have w1 := Ow.ext x t v A w
  refine ⟨B1, ds, t, v, A, d, t', x.bh, by rw [List.append_nil]; exact hj, by rw [List.append_nil]; exact r, w1, e4, fun u B2 H2 A' a ru w' f => ?_⟩
  exact k u B2 H2 (x.bb.trans a.bb) ((hE.up x).aft e2 e3 hv w1 a w' f) ru
def CAN (K : PySem.W.Frag) (tr : TA) (fr : En → Option (List D)) (j : Nat) : Prop := ∀ B0 H0 B H σ en ds, EnOk K B0 H0 B H σ en → fr en = some ds → ∀ Q : List V → Hp → Prop, (∀ vs p B' H', Ext B H B' H' → H p = none → B' p = none → H' p = some (.dT []) → vs[j]? = some (.ref p) → RpAll K B' (vs.eraseIdx j) ds → Q vs H') → tr σ H Q
structure DAN (X : Cx) (es : List Expr) (tr : TA) (fr : En → Option (List D)) (j : Nat) : Prop where
  p : PA X es tr
  c : CAN X.K tr fr j
end
end DD

namespace DD
open PySem PySem.Spec PyProof.Rows L2 Evl
section
variable {K : PySem.W.Frag} {X : Cx} {pos : Pos} {x b e : Expr} {tb te : TE} {fb f : En → Option D} {B H B0 : Hp} {H0 : HB} {σ : L2.St} {en : En}
end
end DD

namespace DD
open PySem PySem.Spec PyProof.Rows L2 Evl
def spS (K : PySem.W.Frag) (F : List D → Option D) : Sp := fun vs H Q E => ∃ ws rest, vs = ws ++ rest ∧ ws.length = ([] : List Str).length ∧ rest.length ≤ PySem.sizeLine ∧ ∀ p : Addr, H p = none → spD K F (ws ++ [V.ref p]) (upd H p (.tup rest)) Q E
section
variable {K : PySem.W.Frag} {B H : Hp}
theorem fn_okS {P : Program} {w : World} {mg : Str → Option Value} {base : Heap} {x qual pv : Str} {st : Stmt} {f : Addr} {fd : FuncData} {N : List Str} {k : Nat} {g : En → Option Out} (F : Fun K x qual st f fd) (S : FnScope N [pv] (defScope st)) (hps : 1 ≤ N.length)
    (hb : ∀ rest : List Value, PySem.bindArgs fd { pos := rest } = (do
      let t ← PySem.newTuple rest
      pure [(pv, t)]))
    (hbody : ∀ (cdv : Value) (A : Around) (outer : List Env) (s : Shared) (H : Hp) (E : XK), Room k (A.deeper (envOfC qual (defScope st) s.heap.objs.size f cdv)) →
      ∃ t, DSs (cxOf CX0 P w K mg base N qual (defScope st) f cdv A outer s H E).nox (defBody st) t g) : FnR P w K mg base CX0 (k + 1) f (spS K (runD g N.length 1)) := by
  obtain ⟨oc, od, kV, doc, pm, an, cdv, ct, osl, rfl, hl, hc⟩ := F.ex
  refine StX.fn_star (ps := []) (pv := pv) (N := N) (sp := spD K (runD g N.length 1)) hl hc S StX.cxUp_none (fun us rest hu => ?_) fun A outer s H vs Q E hr h => ?_
  · have : us = [] := List.eq_nil_of_length_eq_zero hu
    subst this
    exact hb rest
  · obtain ⟨B, ds, d, hB, r, e, kq⟩ := h
    obtain ⟨t, hd⟩ := hbody cdv A outer s H E hr
    refine ⟨t, hd.p.nox, ?_⟩
    unfold runD at e
    by_cases hl : ds.length = 1
    · rw [if_pos hl] at e
      obtain ⟨o, e1, e⟩ := obind e
      refine hd.c B (HB.of H) B H (L2.start N vs) (entry N.length ds) o (entry_ok hB r (by rw [r.len, hl]; exact hps)) e1 _ ?_
      cases o with
      | nx en => cases e; exact fun σ' B' H' x hE => kq .non B' H' hE.ext .non
      | rt d => cases e; exact kq
      | bk en => cases e
      | ct en => cases e
      | rm t en => cases e
    · rw [if_neg hl] at e; cases e
end
section
variable {K : PySem.W.Frag} {X : Cx} {pos : Pos} {e : Expr} {te : TE} {f : En → Option D}
def dCallS (F : List D → Option D) (f : En → Option D) : En → Option D := fun en => (f en).bind fun x => match x with
  | .lst ds => if ds.length ≤ lim then F [.tup ds] else none
  | .tup ds => if ds.length ≤ lim then F [.tup ds] else none
  | _ => none
theorem de_callS {F : List D → Option D} {k : Nat} {fa : Addr} {y : Str} {p sp_ : Pos} (G : FnR X.prog X.w X.K X.mg X.base CX0 k fa (spS X.K F)) (hr : Room k X.A) (hg : Gl X y) (hm : X.mg y = some (.ref fa)) (hk : PySem.W.keepIn X.K (.ref fa) = true)
    (ha : DE X e te f) (hdb : (y == ("__debug__" : Str)) = false := by decide) (hs : starEach [.Starred e sp_] X.env = [(true, eval e X.env)] := by rfl) :
    DE X (.Call (.Name y p) [.Starred e sp_] [] pos) (fun σ H Q => te σ H fun y H1 => ∃ a xs, y = V.ref a ∧ (SqT X.K H1 a xs ∨ SqL X.K H1 a xs) ∧ spS X.K F xs H1 Q E0) (dCallS F f) := ⟨StX.pe_callS1 G hr hk hg hm pass0 ha.p hdb hs, fun B0 H0 B H σ en d hE q Q k => by
  obtain ⟨v, e1, q⟩ := obind q
  refine ha.c B0 H0 B H σ en v hE e1 _ fun u B1 H1 x r => ?_
  have go : ∀ (xs : List V) (ds : List D), RpAll X.K B1 xs ds → ds.length ≤ lim → F [.tup ds] = some d → spS X.K F xs H1 Q E0 := fun xs ds r hl hF => ⟨[], xs, rfl, rfl, by rw [r.len]; exact lim_le hl, fun p hp => by
    have y := Ext.new (o := .tup xs) x.bh hp
    exact ⟨upd B1 p (.tup xs), [.tup ds], d, y.bh, .cons (.tup upd_same (r.up y.bb)) .nil, hF, fun v B2 H2 z r2 => k v B2 H2 (x.trans (y.trans z)) r2⟩⟩
  split at q
  · obtain ⟨hl, q⟩ : _ ∧ _ := by
      rename_i ds
      by_cases c : ds.length ≤ lim
      · rw [if_pos c] at q; exact ⟨c, q⟩
      · rw [if_neg c] at q; cases q
    cases r with
    | lst s rr => exact ⟨_, _, rfl, .inr (ex_l x.bh s), go _ _ rr hl q⟩
  · obtain ⟨hl, q⟩ : _ ∧ _ := by
      rename_i ds
      by_cases c : ds.length ≤ lim
      · rw [if_pos c] at q; exact ⟨c, q⟩
      · rw [if_neg c] at q; cases q
    cases r with
    | tup s rr => exact ⟨_, _, rfl, .inl (ex_t x.bh (SqT.of (K := X.K) s)), go _ _ rr hl q⟩
  · cases q⟩
end
end DD

namespace DD
open PySem PySem.Spec PyProof.Rows L2 Evl
section
variable {K : PySem.W.Frag} {X : Cx} {pos : Pos} {te : TE} {tr : TA} {B H B' H' : Hp}
def CTe (K : PySem.W.Frag) (te : TE) (F : En → Option Tr) : Prop := ∀ B0 H0 B H σ en t, EnOk K B0 H0 B H σ en → F en = some t → ∀ Q : VK, (∀ v A B' H', Ext B H B' H' → Ow K B' H' t v A → (∀ q ∈ A, H q = none) → Q v H') → te σ H Q
def CTa (K : PySem.W.Frag) (tr : TA) (F : En → Option (List Tr)) : Prop := ∀ B0 H0 B H σ en ts, EnOk K B0 H0 B H σ en → F en = some ts → ∀ Q : List V → Hp → Prop, (∀ vs A B' H', Ext B H B' H' → OwAll K B' H' ts vs A → (∀ q ∈ A, H q = none) → Q vs H') → tr σ H Q
structure DTe (X : Cx) (e : Expr) (te : TE) (F : En → Option Tr) : Prop where
  p : PE X e te
  c : CTe X.K te F
structure DTa (X : Cx) (es : List Expr) (tr : TA) (F : En → Option (List Tr)) : Prop where
  p : PA X es tr
  c : CTa X.K tr F
end
section
variable {X : Cx} {pos : Pos} {K : PySem.W.Frag} {b : Expr} {tb : TE} {fb : En → Option D}
end
section
variable {X : Cx} {pos : Pos} {K : PySem.W.Frag}
end
section
open NC
variable {X : Cx}
end
end DD

namespace DD
open PySem PySem.Spec PyProof.Rows L2 Evl
section
variable {K : PySem.W.Frag} {B H : Hp}
theorem OwAll.perm {l l' : List (V × Tr)} (s : l.Perm l') : ∀ {A : List Addr}, OwAll K B H (l.map (·.2)) (l.map (·.1)) A → ∃ A', OwAll K B H (l'.map (·.2)) (l'.map (·.1)) A' ∧ ∀ q ∈ A', q ∈ A := by
  induction s with
  | nil => exact fun {A} h => ⟨A, h, fun _ h => h⟩
  | cons a s ih =>
    intro A h
    cases h with
    | cons w r c =>
      obtain ⟨A', h', k⟩ := ih r
      refine ⟨_, .cons w h' fun q hq z => c q hq (k q z), fun q hq => ?_⟩
      exact (List.mem_append.mp hq).elim (List.mem_append_left _) fun z => List.mem_append_right _ (k q z)
  | swap a b l =>
    intro A h
    cases h with
    | cons w r c =>
      cases r with
      | cons w2 r2 c2 =>
        refine ⟨_, .cons w2 (.cons w r2 fun q hq z => c q hq (List.mem_append_right _ z)) fun q hq z => ?_, fun q hq => ?_⟩
        · rcases List.mem_append.mp z with z | z
          · exact c q z (List.mem_append_left _ hq)
          · exact c2 q hq z
        · rcases List.mem_append.mp hq with z | z
          · exact List.mem_append_right _ (List.mem_append_left _ z)
          · rcases List.mem_append.mp z with z | z
            · exact List.mem_append_left _ z
            · exact List.mem_append_right _ (List.mem_append_right _ z)
  | trans _ _ h1 h2 =>
    intro A h
    obtain ⟨A1, w1, k1⟩ := h1 h
    obtain ⟨A2, w2, k2⟩ := h2 w1
    exact ⟨A2, w2, fun q hq => k1 q (k2 q hq)⟩
end
end DD

namespace DD
open PySem PySem.Spec PyProof.Rows L2 Evl
section
variable {X : Cx} {C0 : CXT} {k n : Nat} {f : Addr} {fd : FuncData} {ps ks : List Str} {sp : Sp} {E : L2.St → XK} {x : Str} {p pos : Pos} {e : Expr} {es : List Expr} {kws : List Keyword} {ta tz : TA} {g : List Value → List Value → List Value} {gV : List V → List V → List V}
end
section
variable {X : Cx} {W : XK} {F : List D → Option D} {k n : Nat} {f : Addr} {fd : FuncData} {ps : List Str} {x kn : Str} {p pos pk : Pos} {nm : Option Str} {e b : Expr} {es : List Expr} {tr : TA} {tb : TE} {fr : En → Option (List D)} {fb : En → Option D}
end
end DD

namespace DD
open PySem PySem.Spec PyProof.Rows L2 Evl SUP
structure Cg (K : PySem.W.Frag) (i : Nat) (a dA : Addr) (names : List Str) (xs : List V) (fs : List D) (B H : Hp) (σ : L2.St) : Prop where
  s : σ[i]? = some (some (.ref a))
  d : H dA = some (.xd ((names.zip xs).reverse))
  r : RpAll K B xs fs
section
variable {K : PySem.W.Frag} {i : Nat} {a dA : Addr} {names : List Str} {xs : List V} {fs : List D} {B H B' H' : Hp} {σ : L2.St}
theorem Cg.up (g : Cg K i a dA names xs fs B H σ) (x : Ext B H B' H') : Cg K i a dA names xs fs B' H' σ := ⟨g.s, x.hh _ _ g.d, g.r.up x.bb⟩
end
def CEr (K : PySem.W.Frag) (P : Hp → Hp → L2.St → Prop) (te : TE) (f : En → Option D) : Prop := ∀ B0 H0 B H σ en d, EnOk K B0 H0 B H σ en → P B H σ → f en = some d → ∀ Q : VK, Kp K B H d Q → te σ H Q
def CTr (K : PySem.W.Frag) (P : Hp → Hp → L2.St → Prop) (tt : TT) (f : En → Option Bool) : Prop := ∀ B0 H0 B H σ en b, EnOk K B0 H0 B H σ en → P B H σ → f en = some b → ∀ Q : Bool → Hp → Prop, (∀ B' H', Ext B H B' H' → Q b H') → tt σ H Q
def CAr (K : PySem.W.Frag) (P : Hp → Hp → L2.St → Prop) (ta : TA) (f : En → Option (List D)) : Prop := ∀ B0 H0 B H σ en ds, EnOk K B0 H0 B H σ en → P B H σ → f en = some ds → ∀ Q : List V → Hp → Prop, (∀ vs B' H', Ext B H B' H' → RpAll K B' vs ds → Q vs H') → ta σ H Q
def CSr (K : PySem.W.Frag) (P : Hp → Hp → L2.St → Prop) (ts : TS) (g : En → Option Out) : Prop := ∀ B0 H0 B H σ en o, EnOk K B0 H0 B H σ en → P B H σ → g en = some o → ∀ Dn : Ends, OutOk K B0 H0 B Dn o → ts Dn σ H
structure DEr (X : Cx) (C : Addr) (i : Nat) (names : List Str) (e : Expr) (te : Addr → Value → Option Addr → TE) (f : List D → En → Option D) : Prop where
  p : ∀ a oe cls d pn, Zc cls d oe → (∃ vs, oe.data = .fields vs) → PE (X.suite a ((a, oe) :: pn)) e (te a cls d)
  c : ∀ a dA xs fs, CEr X.K (Cg X.K i a dA names xs fs) (te a (.ref C) (some dA)) (f fs)
structure DTr (X : Cx) (C : Addr) (i : Nat) (names : List Str) (e : Expr) (te : Addr → Value → Option Addr → TT) (f : List D → En → Option Bool) : Prop where
  p : ∀ a oe cls d pn, Zc cls d oe → (∃ vs, oe.data = .fields vs) → PT (X.suite a ((a, oe) :: pn)) e (te a cls d)
  c : ∀ a dA xs fs, CTr X.K (Cg X.K i a dA names xs fs) (te a (.ref C) (some dA)) (f fs)
structure DWr (X : Cx) (C : Addr) (i : Nat) (names : List Str) (e : Expr) (te : Addr → Value → Option Addr → TT) (f : List D → En → Option Bool) : Prop where
  p : ∀ a oe cls d pn, Zc cls d oe → (∃ vs, oe.data = .fields vs) → PW (X.suite a ((a, oe) :: pn)) e (te a cls d)
  c : ∀ a dA xs fs, CTr X.K (Cg X.K i a dA names xs fs) (te a (.ref C) (some dA)) (f fs)
structure DAr (X : Cx) (C : Addr) (i : Nat) (names : List Str) (es : List Expr) (te : Addr → Value → Option Addr → TA) (f : List D → En → Option (List D)) : Prop where
  p : ∀ a oe cls d pn, Zc cls d oe → (∃ vs, oe.data = .fields vs) → PA (X.suite a ((a, oe) :: pn)) es (te a cls d)
  c : ∀ a dA xs fs, CAr X.K (Cg X.K i a dA names xs fs) (te a (.ref C) (some dA)) (f fs)
structure DSr (X : Cx) (C : Addr) (i : Nat) (names : List Str) (st : List Stmt) (te : Addr → Value → Option Addr → TS) (g : List D → En → Option Out) : Prop where
  p : ∀ a oe cls d pn, Zc cls d oe → (∃ vs, oe.data = .fields vs) → PSs (X.suite a ((a, oe) :: pn)) st (te a cls d)
  c : ∀ a dA xs fs, CSr X.K (Cg X.K i a dA names xs fs) (te a (.ref C) (some dA)) (g fs)
section
variable {X : Cx} {C : Addr} {i : Nat} {names : List Str} {e a0 b : Expr} {es rest : List Expr} {pos : Pos} {te tb : TE} {tt : TT} {ta : TA} {f fb : En → Option D} {ft : En → Option Bool} {fr : En → Option (List D)} {sts : List Stmt} {ts : TS} {g : En → Option Out}
  {rE rB : Addr → Value → Option Addr → TE} {rT rU : Addr → Value → Option Addr → TT} {rA : Addr → Value → Option Addr → TA} {rS rV : Addr → Value → Option Addr → TS} {gE gB : List D → En → Option D} {gT gU : List D → En → Option Bool} {gA : List D → En → Option (List D)} {gS gW : List D → En → Option Out}
theorem der_of (h : ∀ a pn, DE (X.suite a pn) e te f) : DEr X C i names e (fun _ _ _ => te) (fun _ => f) := ⟨fun a oe cls d pn _ _ => (h a _).p, fun a dA xs fs B0 H0 B H σ en d hE _ => (h a []).c B0 H0 B H σ en d hE⟩
theorem dsr_of (h : ∀ a pn, DSs (X.suite a pn) sts ts g) : DSr X C i names sts (fun _ _ _ => ts) (fun _ => g) := ⟨fun a oe cls d pn _ _ => (h a _).p, fun a dA xs fs B0 H0 B H σ en d hE _ => (h a []).c B0 H0 B H σ en d hE⟩
theorem der_fld {n : Str} {j : Nat} {q : Pos} (xf : XfC X.K C) (no : PySem.W.findIn X.K (.ref C) n = some none) (hnd : names.Nodup) (hj : names[j]? = some n) (hpi : ∀ a pn, PE (X.suite a pn) e (tVar i))
    (hb : attributeBase e n X.env (eval e X.env) = eval e X.env := by rfl) : DEr X C i names (.Attribute e n q) (fun a cls d => tXf a cls d C n (tVar i)) (fun fs _ => fs[j]?) :=
  ⟨fun a oe cls d pn hz hf => pe_xf xf no hz hf (hpi a _) hb, fun a dA xs fs B0 H0 B H σ en d hE k e Q q => by
    obtain ⟨v, h1, h2⟩ := k.r.get j e
    exact ⟨_, k.s, rfl, rfl, dA, _, v, rfl, k.d, zip_look hnd hj h1, q v B H (Ext.refl hE.bh) h2⟩⟩
theorem dar_nil : DAr X C i names [] (fun _ _ _ => tNil) (fun _ => aNil) := ⟨fun a oe cls d pn _ _ => pa_nil, fun a dA xs fs B0 H0 B H σ en ds hE _ e Q k => by
  cases e
  exact k [] B H (Ext.refl hE.bh) .nil⟩
theorem dar_cons (h : DEr X C i names e rE gE) (hr : DAr X C i names es rA gA) (hs : ∀ a pn, starEach (e :: es) (X.suite a pn).env = (false, eval e (X.suite a pn).env) :: starEach es (X.suite a pn).env := by intro _ _; rfl) :
    DAr X C i names (e :: es) (fun a cls d => tCons (rE a cls d) (rA a cls d)) (fun fs => aCons (gE fs) (gA fs)) :=
  ⟨fun a oe cls d pn hz hf => pa_cons (h.p a oe cls d pn hz hf) (hr.p a oe cls d pn hz hf) (hs a _), fun a dA xs fs B0 H0 B H σ en ds hE g e Q k => by
    obtain ⟨d, e1, e⟩ := obind e
    obtain ⟨ds', e2, rfl⟩ := omap e
    refine h.c a dA xs fs B0 H0 B H σ en d hE g e1 _ fun v B1 H1 x r => ?_
    refine hr.c a dA xs fs B0 H0 B1 H1 σ en ds' (hE.up x) (g.up x) e2 _ fun vs B2 H2 y r2 => ?_
    exact k _ B2 H2 (x.trans y) (.cons (r.up y.bb) r2)⟩
theorem der_tup {m : Nat} (h : DAr X C i names es rA gA) : DEr X C i names (.Tuple es m pos) (fun a cls d => tTup (rA a cls d)) (fun fs => dTup (gA fs)) :=
  ⟨fun a oe cls d pn hz hf => pe_tup (h.p a oe cls d pn hz hf), fun a dA xs fs B0 H0 B H σ en d hE g e Q k => by
    obtain ⟨ds, e1, e⟩ := obind e
    obtain ⟨hl, rfl⟩ := oite e
    refine h.c a dA xs fs B0 H0 B H σ en ds hE g e1 _ fun vs B1 H1 x r => ⟨by rw [r.len]; exact lim_le hl, fun p hp => ?_⟩
    exact k _ _ _ (x.trans (Ext.new x.bh hp)) (.tup upd_same (r.up (Ex.new (fresh_back x.bh hp))))⟩
theorem inst_at {X : Cx} {pins : List (Addr × Obj)} {s : Shared} {σ : L2.St} {H : Hp} {a dA : Addr} {oe : Obj} {ys : List (Str × V)} (I : Inv X pins σ H s) (ha : s.heap.get? a = some oe) (hz : Zc (.ref C) (some dA) oe) (hf : ∃ vs, oe.data = .fields vs) (hd : H dA = some (.xd ys)) :
    ∃ od, PySem.W.InstAt s.heap a oe C (some od) := by
  obtain ⟨vs, hv⟩ := hf
  have hx : ObjOk X.prog X.w H s.heap dA (.xd ys) := I.hok dA _ hd
  obtain ⟨mA, hns, hr⟩ := hx
  obtain ⟨od, ho, hl⟩ := lookIn_ns hns
  exact ⟨od, ha, hz.1, by unfold PySem.W.notCls; rw [hv] <;> rfl, by rw [hz.2]; exact ho⟩
structure IsC (K : PySem.W.Frag) (C : Addr) : Prop where
  x : XfC K C
  cl : (PySem.W.clsIn K C).isSome = true
  ha : PySem.W.findIn K (.ref C) "__class__" = some (some (.builtin "object.__class__"))
  hn : PySem.W.specialIn K (.builtin "object.__class__") "__get__" = some (some (.builtin "getset_descriptor.__get__"))
  ht : PySem.W.takesIn K (.builtin "object.__class__") = some true
  hm : PySem.W.mroIn K C (.type "object") = some true
def rIsX (a : Addr) (cls : Value) (d : Option Addr) (C S : Addr) (v : Bool) : List V → Hp → VK → Prop := fun xs H Q => xs = [.ref a, .ref S] ∧ cls = .ref C ∧ ∃ dA ys, d = some dA ∧ H dA = some (.xd ys) ∧ Q (.bl v) H
theorem call_isX {a C S : Addr} {oe : Obj} {cls : Value} {d : Option Addr} {pn : List (Addr × Obj)} {v : Bool} (T : IsC X.K C) (hk : PySem.W.kitOne X.K (.ref C) (.ref S) = some v) (hz : Zc cls d oe) (hf : ∃ vs, oe.data = .fields vs) :
    CallR (X.suite a ((a, oe) :: pn)) (.builtin "isinstance") (rIsX a cls d C S v) := by
  intro pins s σ H xs us Q I r h
  obtain ⟨rfl, rfl, dA, ys, rfl, hd, q⟩ := h
  cases r with
  | cons rx rr =>
    cases rr with
    | cons rt rr =>
      cases rr
      cases rx
      cases rt
      obtain ⟨hget, _⟩ := I.pin (a, oe) (List.mem_append.mpr (.inl List.mem_cons_self))
      obtain ⟨od, J⟩ := inst_at I hget hz hf hd
      exact PySem.W.kia_one (PySem.W.kitx_exc T.cl T.x.ga T.x.gg T.x.exC T.ha T.hn T.ht T.hm) I.kIn J hk (fun z => nomatch z) fun tk => ⟨.bl v, H, I.kept (t' := tk) fun _ _ z => z, rfl, q⟩
theorem der_isE {S : Addr} {nS : Str} {v : Bool} {p p2 : Pos} (T : IsC X.K C) (hk : PySem.W.kitOne X.K (.ref C) (.ref S) = some v) (hg : Gl X "isinstance") (hm : X.mg "isinstance" = none) (hgS : Gl X nS) (hmS : X.mg nS = some (.ref S)) (hpi : ∀ a pn, PE (X.suite a pn) e (tVar i)) (hdS : (nS == ("__debug__" : Str)) = false)
    (hs : ∀ a pn, starEach [e, .Name nS p2] (X.suite a pn).env = (false, eval e (X.suite a pn).env) :: starEach [.Name nS p2] (X.suite a pn).env := by intro _ _; rfl) (hs2 : ∀ a pn, starEach [.Name nS p2] (X.suite a pn).env = (false, eval (.Name nS p2) (X.suite a pn).env) :: starEach [] (X.suite a pn).env := by intro _ _; rfl)
    (hpl : ∀ a pn, (backTo pos (starEach [.Name nS p2] (X.suite a pn).env)).any (·.1) = false := by intro _ _; rfl) :
    DEr X C i names (.Call (.Name "isinstance" p) [e, .Name nS p2] [] pos) (fun a cls d => tCB (rIsX a cls d C S v) (tCons (tVar i) (tCons (tC (.ref S)) tNil))) (fun _ => dC (.bl v)) :=
  ⟨fun a oe cls d pn hz hf => pe_callB (X := X.suite a ((a, oe) :: pn)) (call_isX T hk hz hf) hg hm (by decide +kernel) (pa_cons (hpi a _) (pa_cons (pe_glob hgS hmS rfl hdS) pa_nil (hs2 a _)) (hs a _)) (by decide) (by decide) (hs a _) (hpl a _), fun a dA xs fs B0 H0 B H σ en d hE g e Q k => by
    cases e
    exact ⟨_, g.s, ⟨rfl, rfl, dA, _, rfl, g.d, k _ B H (Ext.refl hE.bh) (.bl _)⟩⟩⟩
theorem dtr_val (h : DEr X C i names e rE gE) (he : ∀ (env : Env) whole, isTrue e env whole = (do let v ← whole; standAt e.pos; holding [v] (truthy v)) := by intro _ _; rfl) : DTr X C i names e (fun a cls d => tB (rE a cls d)) (fun fs => tBl (gE fs)) :=
  ⟨fun a oe cls d pn hz hf => pt_val (h.p a oe cls d pn hz hf) (he _), fun a dA xs fs B0 H0 B H σ en b hE g e Q k =>
    h.c a dA xs fs B0 H0 B H σ en _ hE g (tBl_some e) _ fun v B1 H1 x r => by
      cases r
      exact ⟨b, rfl, k B1 H1 x⟩⟩
theorem dtr_not (h : DTr X C i names e rT gT) : DTr X C i names (.UnaryOp .Not e pos) (fun a cls d => tNot (rT a cls d)) (fun fs => tNot1 (gT fs)) :=
  ⟨fun a oe cls d pn hz hf => pt_not (h.p a oe cls d pn hz hf), fun a dA xs fs B0 H0 B H σ en b hE g e Q k => by
    obtain ⟨c, e1, rfl⟩ := omap e
    exact h.c a dA xs fs B0 H0 B H σ en c hE g e1 _ fun B1 H1 x => k B1 H1 x⟩
theorem dwr_one (h : DTr X C i names e rT gT) : DWr X C i names (.BoolOp .Or [e] pos) rT gT := ⟨fun a oe cls d pn hz hf => pw_or1 (h.p a oe cls d pn hz hf), h.c⟩
theorem dwr_or (h : DTr X C i names e rT gT) (h' : DWr X C i names (.BoolOp .Or (b :: rest) pos) rU gU) : DWr X C i names (.BoolOp .Or (e :: b :: rest) pos) (fun a cls d => tOr (rT a cls d) (rU a cls d)) (fun fs => tOr2 (gT fs) (gU fs)) :=
  ⟨fun a oe cls d pn hz hf => pw_or (h.p a oe cls d pn hz hf) (h'.p a oe cls d pn hz hf), fun a dA xs fs B0 H0 B H σ en c hE g e Q k => by
    obtain ⟨d, e1, e⟩ := obind e
    refine h.c a dA xs fs B0 H0 B H σ en d hE g e1 _ fun B1 H1 x => ?_
    cases d with
    | false => exact h'.c a dA xs fs B0 H0 B1 H1 σ en c (hE.up x) (g.up x) e Q fun B2 H2 y => k B2 H2 (x.trans y)
    | true => cases e; exact k B1 H1 x⟩
theorem DWr.dt (h : DWr X C i names e rT gT) : DTr X C i names e rT gT := ⟨fun a oe cls d pn hz hf => (h.p a oe cls d pn hz hf).pt, h.c⟩
structure DEW (X : Cx) (e : Expr) (tc : WX → TE) (fd : En → Option D) : Prop where
  p : ∀ W pn xe, Takes (X.tr pn xe) W → PE (X.tr pn xe) e (tc W)
  c : ∀ (W : WX) B0 H0 B H σ en d, EnOk X.K B0 H0 B H σ en → fd en = some d → ∀ Q : VK, Kp X.K B H d Q → XW X.K B H d (fun cls d H => W cls d σ H) → tc W σ H Q
theorem dt_eqU {K : PySem.W.Frag} {ta tb : TE} {fa fb : En → Option D} (hK : X.K = K) (hu : X.A.units + 64 < cLine) (ha : DE X a0 ta fa) (hb : DE X b tb fb) : DT X (.Compare a0 [.Eq] [b] pos) (tTest (tOp (rEqD K) ta tb)) (tBl (d2 gEq fa fb)) := by subst hK; exact dt_cmpR (op_eqD hu) od_eq ha hb (nomark _)
end
theorem exm_sub {K : PySem.W.Frag} {C S : Addr} {v : Bool} (hb : PySem.W.subIn K (.ref S) (.type "BaseException") = some true) (hc : PySem.W.isClsIn K S = true) (ht : PySem.W.typeIn K (.ref S) = some (.type "type")) (hs : PySem.W.subIn K (.ref C) (.ref S) = some v) : PySem.W.exmOne K (.ref C) (.ref S) = some v := by
  unfold PySem.W.exmOne
  rw [hb, if_pos (by decide)]
  unfold PySem.W.kitCls
  have q : ((PySem.W.clsIn K S).isSome && PySem.W.typeIn K (.ref S) == some (.type "type")) = true := by
    rw [ht, Bool.and_eq_true]
    exact ⟨hc, by decide⟩
  dsimp only
  rw [if_pos q]
  exact hs
theorem kit_sub {K : PySem.W.Frag} {C S : Addr} {v : Bool} (hc : PySem.W.isClsIn K S = true) (ht : PySem.W.typeIn K (.ref S) = some (.type "type")) (h0 : PySem.W.subIn K (.ref C) (.ref C) = some true) (hs : PySem.W.subIn K (.ref C) (.ref S) = some v) : PySem.W.kitOne K (.ref C) (.ref S) = some v := by
  unfold PySem.W.kitOne
  by_cases e : ((Value.ref C) == Value.ref S) = true
  · rw [if_pos e]
    have e := beq_iff_eq.mp e
    cases e
    rw [h0] at hs
    exact hs
  · rw [if_neg e]
    unfold PySem.W.kitCls
    have q : ((PySem.W.clsIn K S).isSome && PySem.W.typeIn K (.ref S) == some (.type "type")) = true := by
      rw [ht, Bool.and_eq_true]
      exact ⟨hc, by decide⟩
    dsimp only
    rw [if_pos q]
    exact hs
end DD

namespace DD
open PySem PySem.Spec PyProof.Rows L2 Evl
mutual
def toNk : D → Option NestedKey
  | .non => some .none
  | .int i => some (.num i)
  | .str x => some (.text x)
  | .tup ds => (toNks ds).map .tup
  | _ => none
def toNks : List D → Option (List NestedKey)
  | [] => some []
  | d :: ds => (toNk d).bind fun k => (toNks ds).map fun ks => k :: ks
end
section
variable {P : Program} {w : World} {K : PySem.W.Frag} {H : Hp} {h : Heap}
end
def ndP (P : Program) (w : World) (d : Addr) (kb : List (NestedKey × Addr)) : Heap → Prop := fun h => kb.length ≤ 1000 ∧ (d == sysModules) = false ∧ ∃ xs : List (NestedKey × Addr × Value), xs.map (fun x => (x.1, x.2.1)) = kb ∧ (∀ (i : Nat) x, xs[i]? = some x → ∃ t : Tok, x.2.2 = .int (i : Int) t) ∧ (xs.map (·.1)).Nodup ∧
  ∃ o es ep, h.get? d = some o ∧ o.ExactDict ∧ o.data = .dict es ep ∧ es.toList = xs.map (entryOfKey (nestedKind P w))
abbrev ndO (P : Program) (w : World) (d : Addr) (kb : List (NestedKey × Addr)) : HO := .ext (ndP P w d kb)
section
variable {X : Cx} {pins : List (Addr × Obj)} {σ : L2.St} {H : Hp} {s : Shared} {d : Addr} {kb : List (NestedKey × Addr)}
variable {o e f : Expr} {apos cpos : Pos} {td ty tx : TE}
end

section
variable {n i j : Nat} {f fa : En → Option D} {fr : En → Option (List D)} {g : En → Option Out} {F : List D → Option D}
end
def NdOk (P : Program) (w : World) (K : PySem.W.Frag) (B : Hp) (p : Addr) (u : HO) (ks : List D) : Prop := ∃ kb, u = ndO P w p kb ∧ RpAll K B (kb.map fun x => V.ref x.2) ks ∧ (∀ (i : Nat) (x : NestedKey × Addr) (d : D), kb[i]? = some x → ks[i]? = some d → toNk d = some x.1 ∧ x.1.depth ≤ 8) ∧ (kb.map (·.1)).Nodup
def CSN (P : Program) (w : World) (K : PySem.W.Frag) (n : Nat) (ts : TS) (g : En → List D → Option (En × List D)) : Prop := ∀ B0 H0 B H σ en ks en' ks' p u, EnOk K B0 H0 B H σ (en.set n (.ex p u)) → NdOk P w K B p u ks → n < en.length → g en ks = some (en', ks') →
  ∀ Dn : Ends, (∀ σ' B' H' p' u', Ex B B' → EnOk K B0 H0 B' H' σ' (en'.set n (.ex p' u')) → NdOk P w K B' p' u' ks' → n < en'.length → Dn.nx σ' H') → ts Dn σ H
section
variable {P : Program} {w : World} {K : PySem.W.Frag} {n : Nat} {B B' H : Hp} {p : Addr} {u : HO} {ks : List D} {ts tu : TS} {g g' : En → List D → Option (En × List D)} {g0 : En → Option Out}
theorem NdOk.up (h : NdOk P w K B p u ks) (x : Ex B B') : NdOk P w K B' p u ks := by
  obtain ⟨kb, a, b, c, d⟩ := h
  exact ⟨kb, a, b.up x, c, d⟩
end

structure DN1 (X : Cx) (n : Nat) (st : Stmt) (ts : TS) (g : En → List D → Option (En × List D)) : Prop where
  p : PS X st ts
  c : CSN X.prog X.w X.K n ts g
structure DNs (X : Cx) (n : Nat) (sts : List Stmt) (ts : TS) (g : En → List D → Option (En × List D)) : Prop where
  p : PSs X sts ts
  c : CSN X.prog X.w X.K n ts g
section
variable {X : Cx} {n iL m : Nat} {st st2 st3 : Stmt} {sts : List Stmt} {t t1 t2 t3 : TS} {g0 g2 : En → Option Out} {g g3 g' : En → List D → Option (En × List D)} {e o oe o2 oe2 tg iter eL : Expr} {tF tL : TE} {fF fL : En → Option D}
end
end DD

namespace NC
open PySem PySem.Spec PyProof.Rows L2
section
variable {X : Cx} {W : XK} {pins : List (Addr × Obj)} {σ : L2.St} {H M : Hp} {s s1 s' : Shared} {scope : Scope} {ce : Env} {fp : List Addr}
end
structure PBX (X : Cx) (body : Value → Env → Sem Unit) (vs : List Nat) (tb : TB) : Prop where
  run : ∀ (pins : List (Addr × Obj)) (s : Shared) (σ : L2.St) (H : Hp) (D : Addr) (Nx : Hp → Prop), Inv X pins σ H s → tb D σ H Nx →
    wpAny (model X.prog X.w) X.A (body (.ref D) X.env) (fun _ s' => ∃ H', Inv X pins (wipe σ vs) H' s' ∧ Nx H') X.xe s
section
variable {prog : Program} {w : World} {A : Around} {R : Result → Shared → Prop} {s : Shared}
end
section
variable {X : Cx}
end
end NC

namespace DD
open PySem PySem.Spec PyProof.Rows L2 Evl NC
section
variable {K : PySem.W.Frag} {X : Cx} {pos : Pos} {tg a e : Expr} {ta te : TE} {fa f : En → Option D} {W : XK}
end
end DD

namespace DD
open PySem PySem.Spec PyProof.Rows L2 Evl NC
section
variable {K : PySem.W.Frag} {X : Cx} {pos : Pos} {tg a e : Expr} {ta te : TE} {fa f : En → Option D}
section
variable {B H B' H' B0 : Hp} {H0 : HB} {d : Addr} {od : Obj} {kvs : List (Key × V)}
end
end
end DD

namespace DD
open PySem PySem.Spec PyProof.Rows L2 Evl
def fieldT : List Str → List Tr → Str → Option Tr
  | n :: ns, t :: ts, f => if n = f then some t else fieldT ns ts f
  | _, _, _ => none
def setT : List Str → List Tr → Str → Tr → List Str × List Tr
  | n :: ns, t :: ts, f, t' => if n = f then (n :: ns, t' :: ts) else (n :: (setT ns ts f t').1, t :: (setT ns ts f t').2)
  | _, _, f, t' => ([f], [t'])
section
variable {K : PySem.W.Frag} {B H B' H' : Hp}
theorem lookup_cons' {f g : Str} {v : V} {fs : List (Str × V)} : ((g, v) :: fs).lookup f = if g = f then some v else fs.lookup f := by
  rw [List.lookup_cons]
  by_cases h : g = f
  · subst h; rw [if_pos rfl]; simp
  · rw [if_neg h]
    have : (f == g) = false := by
      rw [beq_eq_false_iff_ne]
      exact fun z => h z.symm
    rw [this]
theorem fld_some : ∀ {fs : List (Str × V)} {ns : List Str} {ts : List Tr} {A : List Addr} {f : Str} {t : Tr}, fs.map (·.1) = ns → OwAll K B H ts (fs.map (·.2)) A → fieldT ns ts f = some t → ∃ v A', fs.lookup f = some v ∧ Ow K B H t v A' ∧ ∀ q ∈ A', q ∈ A
  | [], ns, ts, A, f, t, h1, h2, h3 => by
    subst h1
    cases h2
    cases h3
  | (n, v) :: fs, ns, ts, A, f, t, h1, h2, h3 => by
    subst h1
    rw [List.map_cons] at h2
    cases h2 with
    | cons a b c =>
      unfold fieldT at h3
      rw [List.map_cons] at h3
      simp only at h3
      rw [lookup_cons']
      by_cases e : n = f
      · rw [if_pos e] at h3 ⊢
        cases h3
        exact ⟨_, _, rfl, a, fun q hq => List.mem_append_left _ hq⟩
      · rw [if_neg e] at h3 ⊢
        obtain ⟨v', A', e1, w, hq⟩ := fld_some rfl b h3
        exact ⟨v', A', e1, w, fun q z => List.mem_append_right _ (hq q z)⟩
theorem fld_set {f : Str} {t : Tr} {v : V} {A0 : List Addr} (w : Ow K B H t v A0) : ∀ {fs : List (Str × V)} {ns : List Str} {ts : List Tr} {A : List Addr}, fs.map (·.1) = ns → OwAll K B H ts (fs.map (·.2)) A → (∀ q ∈ A0, q ∉ A) →
    ∃ A', (putF f v fs).map (·.1) = (setT ns ts f t).1 ∧ OwAll K B H (setT ns ts f t).2 ((putF f v fs).map (·.2)) A' ∧ ∀ q ∈ A', q ∈ A ∨ q ∈ A0
  | [], ns, ts, A, h1, h2, h3 => by
    subst h1
    cases h2
    refine ⟨A0 ++ [], rfl, .cons w .nil fun q _ z => (List.not_mem_nil z).elim, fun q hq => .inr ?_⟩
    rw [List.append_nil] at hq
    exact hq
  | (n, x) :: fs, ns, ts, A, h1, h2, h3 => by
    subst h1
    rw [List.map_cons] at h2
    cases h2 with
    | cons a b c =>
      rw [List.map_cons]
      unfold putF setT
      simp only
      by_cases e : n = f
      · rw [if_pos e, if_pos e, List.map_cons, List.map_cons]
        exact ⟨_, rfl, .cons w b fun q hq z => h3 q hq (List.mem_append_right _ z), fun q hq => (List.mem_append.mp hq).elim .inr fun z => .inl (List.mem_append_right _ z)⟩
      · rw [if_neg e, if_neg e, List.map_cons, List.map_cons]
        obtain ⟨A', e1, e2, e3⟩ := fld_set w rfl b fun q hq z => h3 q hq (List.mem_append_right _ z)
        refine ⟨_, by rw [e1], .cons a e2 fun q hq z => ?_, fun q hq => ?_⟩
        · rcases e3 q z with z | z
          · exact c q hq z
          · exact h3 q z (List.mem_append_left _ hq)
        · rcases List.mem_append.mp hq with z | z
          · exact .inl (List.mem_append_left _ z)
          · exact (e3 q z).imp (List.mem_append_right _) id
end
def lfD : Tr → Option D
  | .lf d => some d
  | _ => none
def slO (C : Str) : Sl → Option (List Str × List Tr)
  | .tre (.ob C' ns ts) => if C' = C then some (ns, ts) else none
  | .par (.ob C' ns ts) => if C' = C then some (ns, ts) else none
  | .ro (.ob C' ns ts) => if C' = C then some (ns, ts) else none
  | _ => none
def dFld (i : Nat) (C f : Str) : En → Option D := fun en => (en[i]?).bind fun s => (slO C s).bind fun x => (fieldT x.1 x.2 f).bind lfD
section
variable {K : PySem.W.Frag} {X : Cx} {pos : Pos} {B H B0 : Hp} {H0 : HB} {σ : L2.St} {en : En} {C f : Str} {Ca : Addr} {i : Nat}
theorem ob_at (hE : EnOk K B0 H0 B H σ en) {s : Sl} {ns : List Str} {ts : List Tr} (hi : en[i]? = some s) (hs : slO C s = some (ns, ts)) (hC : PySem.W.nsIn K mainGlobals C = some (some (.ref Ca))) :
    ∃ a dx fs A, σ[i]? = some (some (.ref a)) ∧ H a = some (.ins Ca dx fs) ∧ fs.map (·.1) = ns ∧ OwAll K B H ts (fs.map (·.2)) A ∧ ∀ q ∈ a :: dx :: A, B q = none := by
  have go : ∀ {t : Tr} {v : V} {A : List Addr}, t = .ob C ns ts → Ow K B H t v A → ∃ a dx fs A', v = .ref a ∧ H a = some (.ins Ca dx fs) ∧ fs.map (·.1) = ns ∧ OwAll K B H ts (fs.map (·.2)) A' ∧ ∀ q ∈ a :: dx :: A', B q = none := fun {t v A} e w => by
    have fr := fun q hq => (Ow.free t v A w q hq).1
    subst e
    cases w with
    | ob h1 h2 h3 h4 h5 h6 h7 h8 h9 h10 =>
      rw [hC] at h1
      cases h1
      exact ⟨_, _, _, _, rfl, h4, h10, h6, fr⟩
  have un : ∀ {C' : Str} {ns' : List Str} {ts' : List Tr}, (if C' = C then some (ns', ts') else none) = some (ns, ts) → C' = C ∧ ns' = ns ∧ ts' = ts := fun {C' ns' ts'} h => by
    by_cases c : C' = C
    · rw [if_pos c] at h; cases h; exact ⟨c, rfl, rfl⟩
    · rw [if_neg c] at h; cases h
  obtain ⟨o, ho⟩ := hE.lt hi
  have sl := hE.slot i s o hi ho
  unfold slO at hs
  split at hs
  · obtain ⟨rfl, rfl, rfl⟩ := un hs
    obtain ⟨v, A, rfl, w⟩ := sl
    obtain ⟨a, dx, fs, A', rfl, r⟩ := go rfl w
    exact ⟨a, dx, fs, A', ho, r⟩
  · obtain ⟨rfl, rfl, rfl⟩ := un hs
    obtain ⟨v, A, rfl, w⟩ := sl
    obtain ⟨a, dx, fs, A', rfl, r⟩ := go rfl w
    exact ⟨a, dx, fs, A', ho, r⟩
  · obtain ⟨rfl, rfl, rfl⟩ := un hs
    obtain ⟨v, A, rfl, w⟩ := hE.ro i _ o hi ho
    obtain ⟨a, dx, fs, A', rfl, r⟩ := go rfl (hE.roH w).2
    exact ⟨a, dx, fs, A', ho, r⟩
  · cases hs
theorem de_fld {o : Expr} (hC : PySem.W.nsIn X.K mainGlobals C = some (some (.ref Ca))) (c : Cls X.K Ca) (n : NoAttr X.K Ca f) (hx : PE X o (tVar i)) (hb : attributeBase o f X.env (eval o X.env) = eval o X.env := by rfl) :
    DE X (.Attribute o f pos) (tFld X.K (tVar i) f) (dFld i C f) := ⟨pe_fld hx hb, fun B0 H0 B H σ en d hE e Q k => by
  obtain ⟨s, hi, e⟩ := obind e
  obtain ⟨⟨ns, ts⟩, hs, e⟩ := obind e
  obtain ⟨t, ht, e⟩ := obind e
  obtain ⟨a, dx, fs, A, hσ, ha, hns, w, _⟩ := ob_at hE hi hs hC
  obtain ⟨v, A', l, w', _⟩ := fld_some hns w ht
  cases t with
  | lf d' =>
    cases e
    cases w' with
    | lf r => exact ⟨.ref a, hσ, a, Ca, dx, fs, v, rfl, ha, c, n, l, k v B H (Ext.refl hE.bh) r⟩
  | _ => cases e⟩
def sSetF (i : Nat) (C f : Str) (fe : En → Option Tr) : En → Option Out := fun en => (fe en).bind fun t => (en[i]?).bind fun s => (slT s).bind fun u => match u with
  | .ob C' ns ts => if C' = C ∧ ns.length < 1000 then some (.nx (en.set i (setS s (.ob C (setT ns ts f t).1 (setT ns ts f t).2)))) else none
  | _ => none
theorem cs_setF {te : TE} {fe : En → Option Tr} (hC : PySem.W.nsIn K mainGlobals C = some (some (.ref Ca))) (c : Cls K Ca) (n : NoAttr K Ca f)
    (he : ∀ (B0 : Hp) (H0 : HB) (B H : Hp) (σ : L2.St) (en : En) (t : Tr), EnOk K B0 H0 B H σ en → fe en = some t → ∀ Q : VK, (∀ v B' H' A', Ext B H B' H' → Ow K B' H' t v A' → (∀ q ∈ A', H q = none) → Q v H') → te σ H Q) : CS K (sFld K (tVar i) te f) (sSetF i C f fe) := fun B0 H0 B H σ en o hE e Dn k => by
  obtain ⟨t, e1, e⟩ := obind e
  obtain ⟨s, hi, e⟩ := obind e
  obtain ⟨u, hu, e⟩ := obind e
  refine he B0 H0 B H σ en t hE e1 _ fun v B1 H1 A1 x w1 new => ?_
  split at e
  · rename_i C' ns ts
    obtain ⟨⟨rfl, hl⟩, rfl⟩ := oite e
    obtain ⟨r, A, hr, w0, wf, wg⟩ := hE.own_tree hi hu
    clear wf wg
    have fr := fun q hq => Ow.free _ _ _ w0 q hq
    have wm := Ow.mono x.bb _ _ _ w0 fun p hp => ⟨by
        cases cc : H p with
        | none => exact absurd cc (fr p hp).2.1
        | some u => exact x.hh _ _ cc, (x.st p (fr p hp).2).trans (fr p hp).1⟩
    have hA2 : ∀ q ∈ A1, q ∉ A := fun q hq z => (fr q z).2.1 (new q hq)
    have wm0 := wm
    cases wm with
    | ob h1 h2 h3 h4 h5 h6 h7 h8 h9 h10 =>
      rename_i a dx fs A2
      rw [hC] at h1
      cases h1
      obtain ⟨A', e1', e2', e3'⟩ := fld_set w1 h10 h6 fun q hq z => hA2 q hq (by simp [z])
      have nA' : ∀ q ∈ A', q ≠ a ∧ q ≠ dx := fun q hq => by
        rcases e3' q hq with z | z
        · exact ⟨fun y => h8 (y ▸ z), fun y => h9 (y ▸ z)⟩
        · exact ⟨fun y => hA2 q z (by simp [y]), fun y => hA2 q z (by simp [y])⟩
      refine ⟨.ref a, hr, a, Ca, dx, fs, rfl, h4, c, n, ?_, ?_⟩
      · have := congrArg List.length h10
        rw [List.length_map] at this
        omega
      · have e2'' : OwAll K B1 (upd H1 a (.ins Ca dx (putF f v fs))) (setT ns ts f t).2 ((putF f v fs).map (·.2)) A' := OwAll.mono (Ex.refl _) _ _ _ e2' fun q hq => ⟨upd_ne (nA' q hq).1, (OwAll.free _ _ _ e2' q hq).1⟩
        refine k σ B1 (upd H1 a (.ins Ca dx (putF f v fs))) x.bb (hE.aft hi hu hr w0 (t' := .ob _ (setT ns ts f t).1 (setT ns ts f t).2) (A' := a :: dx :: A') ⟨x.bb, Ex.mut x.bh h2, fun q hq hn => ?_, fun q hq m => x.st q m⟩
          (.ob hC h2 h3 upd_same ((upd_ne h7.symm).trans h5) e2'' h7 (fun z => (nA' a z).1 rfl) (fun z => (nA' dx z).2 rfl) e1') fun q hq => ?_)
        · rw [upd_ne fun z => hq (by simp [z])]
          cases cc : H q with
          | none => exact absurd cc hn
          | some u => exact x.hh _ _ cc
        rcases List.mem_cons.mp hq with z | hq
        · exact .inl (by simp [z])
        rcases List.mem_cons.mp hq with z | hq
        · exact .inl (by simp [z])
        rcases e3' q hq with z | z
        · exact .inl (by simp [z])
        · exact .inr (new q z)
  · cases e
end
end DD

namespace DD
open PySem PySem.Spec PyProof.Rows L2 Evl
def entryR (n : Nat) (t : Tr) (ds : List D) : En := .ro t :: (ds.map Sl.dat ++ List.replicate (n - ds.length - 1) .no)
def runR (g : En → Option Out) (n k : Nat) (t : Tr) (ds : List D) : Option D := if ds.length + 1 = k then (g (entryR n t ds)).bind fun
  | .rt d => some d
  | .nx _ => some .non
  | _ => none else none
def spR (K : PySem.W.Frag) (F : Tr → List D → Option D) : Sp := fun vs H Q _ => ∃ B ds t v us A d, Ex B H ∧ vs = v :: us ∧ RpAll K B us ds ∧ Ow K B H t v A ∧ F t ds = some d ∧ Kp K B H d Q
def spRX (K : PySem.W.Frag) (F : Tr → List D → Option D) : Sp := fun vs H Q E => ∃ B ds t v us A d, Ex B H ∧ vs = v :: us ∧ RpAll K B us ds ∧ Ow K B H t v A ∧ F t ds = some d ∧ Kp K B H d Q ∧ XW K B H d E
section
variable {K : PySem.W.Frag} {B H : Hp}
theorem entryR_ok {v : V} {us : List V} {ds : List D} {N : List Str} {t : Tr} {A : List Addr} (hB : Ex B H) (r : RpAll K B us ds) (w : Ow K B H t v A) (hl : us.length + 1 ≤ N.length) : EnOk K B (HB.of H) B H (L2.start N (v :: us)) (entryR N.length t ds) := by
  have hlen := r.len
  have cs : ∀ (i : Nat) (s : Sl), (entryR N.length t ds)[i]? = some s → (i = 0 ∧ s = .ro t) ∨ (1 ≤ i ∧ (s = .no ∨ ∃ d, ds[i - 1]? = some d ∧ s = .dat d)) := fun i s e => by
    unfold entryR at e
    cases i with
    | zero => rw [List.getElem?_cons_zero] at e; cases e; exact .inl ⟨rfl, rfl⟩
    | succ i =>
      rw [List.getElem?_cons_succ] at e
      refine .inr ⟨by omega, ?_⟩
      by_cases h : i < (ds.map Sl.dat).length
      · rw [List.getElem?_append_left h, List.getElem?_map] at e
        obtain ⟨d, h2, rfl⟩ := omap e
        exact .inr ⟨d, h2, rfl⟩
      · rw [List.getElem?_append_right (by omega), List.getElem?_replicate] at e
        split at e
        · cases e; exact .inl rfl
        · cases e
  have nomut : ∀ (i : Nat) (s : Sl) (o : Option V) (q : Addr), (entryR N.length t ds)[i]? = some s → Ft K B H s o q → False := fun i s o q e f => by
    rcases cs i s e with ⟨_, rfl⟩ | ⟨_, rfl | ⟨d, _, rfl⟩⟩
    · exact f
    · exact f
    · exact f
  have st_get : ∀ i, i < (v :: us).length → (L2.start N (v :: us))[i]? = ((v :: us)[i]?).map some := fun i hi => by
    unfold L2.start
    rw [List.getElem?_append_left (by rw [List.length_map]; exact hi), List.getElem?_map]
  refine ⟨Ext.refl hB, ?_, fun i s o a b => ?_, fun i j si sj oi oj q a b _ _ f _ => (nomut i si oi q a f).elim, fun i s o q a _ f => (nomut i s o q a f).elim, fun i t' o a _ => ?_, fun i t' o a b => ?_⟩
  · unfold L2.start entryR
    rw [List.length_append, List.length_map, List.length_replicate, List.length_cons, List.length_cons, List.length_append, List.length_map, List.length_replicate]
    omega
  · rcases cs i s a with ⟨_, rfl⟩ | ⟨hi, rfl | ⟨d, hd, rfl⟩⟩
    · exact trivial
    · exact trivial
    · obtain ⟨u, h3, h4⟩ := r.get (i - 1) hd
      have hiu : i - 1 < us.length := (List.getElem?_eq_some_iff.mp h3).1
      have e1 : (v :: us)[i]? = some u := by
        have : i = (i - 1) + 1 := by omega
        rw [this, List.getElem?_cons_succ]
        exact h3
      rw [st_get i (by rw [List.length_cons]; omega), e1] at b
      cases b
      exact ⟨u, rfl, h4⟩
  · rcases cs i _ a with ⟨_, z⟩ | ⟨_, z | ⟨d, _, z⟩⟩ <;> cases z
  · rcases cs i _ a with ⟨rfl, z⟩ | ⟨_, z | ⟨d, _, z⟩⟩
    · cases z
      rw [st_get 0 (by rw [List.length_cons]; omega)] at b
      cases b
      exact ⟨v, A, rfl, w⟩
    · cases z
    · cases z
theorem fn_okR {P : Program} {w : World} {mg : Str → Option Value} {base : Heap} {x qual : Str} {st : Stmt} {f : Addr} {fd : FuncData} {N ps : List Str} {k : Nat} {g : En → Option Out} (F : Fun K x qual st f fd) (S : FnScope N ps (defScope st)) (hps : ps.length ≤ N.length)
    (hbody : ∀ (cdv : Value) (A : Around) (outer : List Env) (s : Shared) (H : Hp) (E : XK), Room k (A.deeper (envOfC qual (defScope st) s.heap.objs.size f cdv)) →
      ∃ t, DSs (cxOf CX0 P w K mg base N qual (defScope st) f cdv A outer s H E).nox (defBody st) t g) : FnOk P w K mg base CX0 (k + 1) f fd ps (spR K (runR g N.length ps.length)) := by
  refine F.ok S (fun vs H Q E h => ?_) (fun cdv A outer s H vs Q E hr h => ?_)
  · obtain ⟨B, ds, t, v, us, A, d, _, rfl, r, _, e, _⟩ := h
    unfold runR at e
    by_cases hl : ds.length + 1 = ps.length
    · rw [List.length_cons, r.len]; exact hl
    · rw [if_neg hl] at e; cases e
  · obtain ⟨B, ds, tr, v, us, A', d, hB, rfl, r, w, e, kq⟩ := h
    obtain ⟨t, hd⟩ := hbody cdv A outer s H E hr
    refine ⟨t, hd.p, ?_⟩
    unfold runR at e
    by_cases hl : ds.length + 1 = ps.length
    · rw [if_pos hl] at e
      obtain ⟨o, e1, e⟩ := obind e
      refine hd.c B (HB.of H) B H (L2.start N (v :: us)) (entryR N.length tr ds) o (entryR_ok hB r w (by rw [r.len, hl]; exact hps)) e1 _ ?_
      cases o with
      | nx en => cases e; exact fun σ' B' H' x hE => kq .non B' H' hE.ext .non
      | rt d => cases e; exact kq
      | bk en => cases e
      | ct en => cases e
      | rm t en => cases e
    · rw [if_neg hl] at e; cases e
theorem fn_okRX {P : Program} {w : World} {mg : Str → Option Value} {base : Heap} {x qual : Str} {st : Stmt} {f : Addr} {fd : FuncData} {N ps : List Str} {k : Nat} {g : En → Option Out} (F : Fun K x qual st f fd) (S : FnScope N ps (defScope st)) (hps : ps.length ≤ N.length)
    (hbody : ∀ (cdv : Value) (A : Around) (outer : List Env) (s : Shared) (H : Hp) (E : XK), Room k (A.deeper (envOfC qual (defScope st) s.heap.objs.size f cdv)) →
      ∃ t, DSXs (cxOf (L2.CX P w) P w K mg base N qual (defScope st) f cdv A outer s H E) E (defBody st) t g) : FnOk P w K mg base (L2.CX P w) (k + 1) f fd ps (spRX K (runR g N.length ps.length)) := by
  refine F.okX S (fun vs H Q E h => ?_) (fun cdv A outer s H vs Q E hr h => ?_)
  · obtain ⟨B, ds, t, v, us, A, d, _, rfl, r, _, e, _⟩ := h
    unfold runR at e
    by_cases hl : ds.length + 1 = ps.length
    · rw [List.length_cons, r.len]; exact hl
    · rw [if_neg hl] at e; cases e
  · obtain ⟨B, ds, tr, v, us, A', d, hB, rfl, r, w, e, kq, kx⟩ := h
    obtain ⟨t, hd⟩ := hbody cdv A outer s H E hr
    refine ⟨t, hd.p, ?_⟩
    unfold runR at e
    by_cases hl : ds.length + 1 = ps.length
    · rw [if_pos hl] at e
      obtain ⟨o, e1, e⟩ := obind e
      refine hd.c B (HB.of H) B H (L2.start N (v :: us)) (entryR N.length tr ds) o (entryR_ok hB r w (by rw [r.len, hl]; exact hps)) e1 _ ?_ ?_
      · cases o with
        | nx en => cases e; exact fun σ' B' H' x hE => kq .non B' H' hE.ext .non
        | rt d => cases e; exact kq
        | bk en => cases e
        | ct en => cases e
        | rm t en => cases e
      · cases o with
        | nx en => trivial
        | rt d => cases e; exact kx
        | bk en => cases e
        | ct en => cases e
        | rm t en => cases e
    · rw [if_neg hl] at e; cases e
end
def slA : Sl → Option Tr
  | .tre t => some t
  | .par t => some t
  | .ro t => some t
  | _ => none
section
variable {K : PySem.W.Frag} {X : Cx} {pos : Pos} {B H B0 : Hp} {H0 : HB} {σ : L2.St} {en : En} {C f : Str} {Ca pa ga : Addr} {i : Nat} {es : List Expr} {e : Expr} {ta : TA} {fa : En → Option (List D)}
theorem tree_at (hE : EnOk K B0 H0 B H σ en) {s : Sl} {t : Tr} (hi : en[i]? = some s) (hs : slA s = some t) : ∃ v A, σ[i]? = some (some v) ∧ Ow K B H t v A := by
  obtain ⟨o, ho⟩ := hE.lt hi
  have sl := hE.slot i s o hi ho
  cases s with
  | tre t' => cases hs; obtain ⟨v, A, rfl, w⟩ := sl; exact ⟨v, A, ho, w⟩
  | par t' => cases hs; obtain ⟨v, A, rfl, w⟩ := sl; exact ⟨v, A, ho, w⟩
  | ro t' => cases hs; obtain ⟨v, A, rfl, w⟩ := hE.ro i _ o hi ho; exact ⟨v, A, ho, (hE.roH w).2⟩
  | _ => cases hs
def obC (C : Str) : Tr → Bool
  | .ob C' _ _ => decide (C' = C)
  | _ => false
theorem ob_ins {t : Tr} {v : V} {A : List Addr} (h : obC C t = true) (hC : PySem.W.nsIn K mainGlobals C = some (some (.ref Ca))) (w : Ow K B H t v A) : ∃ a dx fs, v = .ref a ∧ H a = some (.ins Ca dx fs) := by
  cases t with
  | ob C' ns ts =>
    have : C' = C := of_decide_eq_true h
    subst this
    cases w with
    | ob h1 h2 h3 h4 h5 h6 h7 h8 h9 h10 =>
      rw [hC] at h1
      cases h1
      exact ⟨_, _, _, rfl, h4⟩
  | _ => cases h
def dProp (i : Nat) (C : Str) (F : Tr → List D → Option D) : En → Option D := fun en => (en[i]?).bind fun s => (slA s).bind fun t => if obC C t = true then F t [] else none
theorem de_prop {o : Expr} {k : Nat} {fd : FuncData} {ps : List Str} {F : Tr → List D → Option D} (hC : PySem.W.nsIn X.K mainGlobals C = some (some (.ref Ca))) (c : Cls X.K Ca) (hp : PropOf X.K Ca f pa ga) (G : FnOk X.prog X.w X.K X.mg X.base CX0 k ga fd ps (spR X.K F)) (hr : Room (k + 1) X.A) (hb : Binds X.K fd ps []) (hx : PE X o (tVar i))
    (hab : attributeBase o f X.env (eval o X.env) = eval o X.env := by rfl) : DE X (.Attribute o f pos) (tProp Ca (spR X.K F) [] E0 (tVar i)) (dProp i C F) := ⟨pe_prop hx c hp G hr hb .nil pass0 hab, fun B0 H0 B H σ en d hE e Q k => by
  obtain ⟨s, hi, e⟩ := obind e
  obtain ⟨t, hs, e⟩ := obind e
  obtain ⟨ho, e⟩ := oite' e
  obtain ⟨v, A, hσ, w⟩ := tree_at hE hi hs
  obtain ⟨a, dx, fs, rfl, ha⟩ := ob_ins ho hC w
  exact ⟨.ref a, hσ, a, dx, fs, rfl, ha, B, [], t, .ref a, [], A, d, hE.bh, rfl, .nil, w, e, k⟩⟩
end
end DD

namespace DD
open PySem PySem.Spec PyProof.Rows L2 Evl
structure SpecOf (K : PySem.W.Frag) (C : Addr) (m : Str) (g : Addr) : Prop where
  at_ : PySem.W.findIn K (.ref C) m = some (some (.ref g))
  fn : PySem.W.fnIn K g = true
  isf : PySem.W.isFn K (.ref g) = true
section
variable {X : Cx} {C0 : CXT} {k : Nat} {Ca g : Addr} {fd : FuncData} {ps : List Str} {sp : Sp} {E : L2.St → XK} {pos : Pos} {a b : Expr} {ta tb : TE}
theorem ins_at {pins : List (Addr × Obj)} {σ : L2.St} {H : Hp} {s : Shared} {p dx : Addr} {fs : List (Str × V)} (I : Inv X pins σ H s) (e : H p = some (.ins Ca dx fs)) : ∃ o od, PySem.W.InstAt s.heap p o Ca od := by
  obtain ⟨mA, O, _, _, _, _⟩ := ins_get I.hok e
  obtain ⟨od, J, _⟩ := O.look
  exact ⟨_, od, J⟩
end
section
variable {K : PySem.W.Frag} {X : Cx} {k : Nat} {C : Str} {Ca g : Addr} {fd : FuncData} {ps : List Str} {F : Tr → List D → Option D} {pos p1 : Pos} {a b : Expr} {ta tb : TE} {fb : En → Option D} {i : Nat}
theorem sub_keep {B0 : Hp} {H0 : HB} {B H B1 H1 : Hp} {σ : L2.St} {en : En} {s : Sl} {t : Tr} (hE : EnOk K B0 H0 B H σ en) (x : Ext B H B1 H1) (hi : en[i]? = some s) (hs : slA s = some t) : ∃ v A, σ[i]? = some (some v) ∧ Ow K B1 H1 t v A := tree_at (hE.up x) hi hs
end
end DD

namespace DD
open PySem PySem.Spec PyProof.Rows L2 Evl SUP
section
variable {K : PySem.W.Frag} {X : Cx} {pos : Pos} {e : Expr} {es : List Expr} {te : TE} {tr : TA} {f : En → Option D} {fr : En → Option (List D)} {B H B0 : Hp} {H0 : HB} {σ : L2.St} {en : En} {W : XK} {d : D} {st : Stmt} {ts : TS}
theorem xw_rm (hE : EnOk K B0 H0 B H σ en) (kx : XOk K B0 H0 W (.rm (.lf d) en)) : XW K B H d W := fun c ns fs h C hC B' H' xs dA x hd r => kx d c ns fs rfl h C hC σ B' H' xs dA (hE.up x) hd r
def sRaiseK (c : Str) (ns : List Str) (fr : En → Option (List D)) : En → Option Out := fun en => (fr en).bind fun ds => if ds.length = ns.length ∧ ds.all fmtD = true then some (.rm (.lf (excD c ns ds)) en) else none
theorem dsx_raiseK {c : Str} {names : List Str} {C f : Addr} {fd : FuncData} {p pos2 : Pos} (hc : X.calm = true) (tk : Takes X (fun cls d _ H => W cls d H)) (hr : Room 2 X.A) (E : ExcT X.prog X.w X.K X.mg X.base c names C f fd) (hg : Gl X c) (ha : DA X (e :: es) tr fr) (hn : names.length ≤ 1000 := by decide)
    (hdb : (c == ("__debug__" : Str)) = false := by decide) (he : starEach (e :: es) X.env = (false, eval e X.env) :: starEach es X.env := by rfl) (hpl : (backTo pos (starEach es X.env)).any (·.1) = false := by rfl) :
    DSX X W (.Raise (some (.Call (.Name c p) (e :: es) [] pos)) none pos2) (fun _ σ H => tMkO C (spI C names) [] tr σ H fun cls d H' => W cls d H') (sRaiseK c names fr) :=
  ⟨(dsx_raise hc tk hr E hg ha hn hdb he hpl).p, fun B0 H0 B H σ en o hE q Dn k kx => by
    obtain ⟨ds, e1, q⟩ := obind q
    obtain ⟨⟨hl, hf⟩, rfl⟩ := oite q
    have xw := xw_rm hE kx
    refine ha.c B0 H0 B H σ en ds hE e1 _ fun vs B1 H1 x r => ⟨by rw [r.len, hl]; exact hn, fun a hna => ?_⟩
    refine ⟨a, vs ++ [], rfl, by rw [List.append_nil, r.len]; exact hl, fun y hy => fmt_rps r hf y (by rw [List.append_nil] at hy; exact hy), upd_same, fun d hd hne => ?_⟩
    have hd1 : H1 d = none := by
      rw [upd_ne hne] at hd
      exact hd
    refine ⟨rfl, d, (names.zip (vs ++ [])).reverse, upd_same, by rw [upd_ne hne, upd_same], hd1, ?_⟩
    have e2 : upd (del (upd (upd (upd H1 a (exo a C none)) d (exd d (names.zip (vs ++ [])).reverse)) a (exo a C (some d))) a) d (.xd (names.zip (vs ++ [])).reverse) = upd H1 d (.xd (names.zip (vs ++ [])).reverse) := by
      funext z
      by_cases h1 : z = d
      · subst h1
        rw [upd_same, upd_same]
      · rw [upd_ne h1, upd_ne h1]
        by_cases h2 : z = a
        · subst h2
          rw [del_same, hna]
        · rw [del_ne h2, upd_ne h2, upd_ne h1, upd_ne h2]
    rw [e2, List.append_nil]
    exact xw c names ds excOf_excD C E.ns B1 _ vs d (x.trans (Ext.newM x.bh hd1)) upd_same r⟩
def sXK (fd : En → Option D) (k : D → En → Option Out) : En → Option Out := fun en => (fd en).bind fun d => match excOf d with
  | some _ => some (.rm (.lf d) en)
  | none => k d en
end
def spPX (K : PySem.W.Frag) (j : Nat) (F : Tr → List D → Option (D × Tr)) : Sp := fun vs H Q E => ∃ B ds t v A d t', Ex B H ∧ vs[j]? = some v ∧ RpAll K B (vs.eraseIdx j) ds ∧ Ow K B H t v A ∧ F t ds = some (d, t') ∧
  (∀ u B' H' A', Aft K B H A B' H' → Rp K B' u d → Ow K B' H' t' v A' → (∀ q ∈ A', q ∈ A ∨ H q = none) → Q u H') ∧
  ∀ c ns fs, excOf d = some (c, ns, fs) → ∀ C, PySem.W.nsIn K mainGlobals c = some (some (.ref C)) → ∀ B' H' A' xs dA, Aft K B H A B' H' → Ow K B' H' t' v A' → (∀ q ∈ A', q ∈ A ∨ H q = none) → H' dA = some (.xd ((ns.zip xs).reverse)) → RpAll K B' xs fs → E (.ref C) (some dA) H'
section
variable {K : PySem.W.Frag} {B H : Hp}
theorem fn_okPX {P : Program} {w : World} {mg : Str → Option Value} {base : Heap} {x qual : Str} {st : Stmt} {f : Addr} {fd : FuncData} {N ps : List Str} {k j : Nat} {g : En → Option Out} (F : Fun K x qual st f fd) (S : FnScope N ps (defScope st)) (hps : ps.length ≤ N.length)
    (hbody : ∀ (cdv : Value) (A : Around) (outer : List Env) (s : Shared) (H : Hp) (E : XK), Room k (A.deeper (envOfC qual (defScope st) s.heap.objs.size f cdv)) →
      ∃ t, DSXs (cxOf (L2.CX P w) P w K mg base N qual (defScope st) f cdv A outer s H E) E (defBody st) t g) : FnOk P w K mg base (L2.CX P w) (k + 1) f fd ps (spPX K j (runP g N.length ps.length j)) := by
  refine F.okX S (fun vs H Q E h => ?_) (fun cdv A outer s H vs Q E hr h => ?_)
  · obtain ⟨B, ds, t, v, A, d, t', _, hv, r, _, e, _⟩ := h
    unfold runP at e
    by_cases hl : ds.length + 1 = ps.length ∧ j ≤ ds.length
    · have := erase_len hv
      have := r.len
      omega
    · rw [if_neg hl] at e; cases e
  · obtain ⟨B, ds, tr, v, A1, d, tr', hB, hv, r, w1, e, kq, kx⟩ := h
    obtain ⟨t, hd⟩ := hbody cdv A outer s H E hr
    refine ⟨t, hd.p, ?_⟩
    have el := erase_len hv
    have rl := r.len
    unfold runP at e
    by_cases hl : ds.length + 1 = ps.length ∧ j ≤ ds.length
    · rw [if_pos hl] at e
      obtain ⟨o, e1, e⟩ := obind e
      have fin : ∀ (d : D) (t' : Tr) (σ' : L2.St) (en' : En) (B' H' : Hp), EnOk K B ⟨hole H A1, fun _ => v⟩ B' H' σ' en' → (match en'[j]? with | some (.par t') => some (d, t') | _ => none) = some (d, t') → ∃ A', Aft K B H A1 B' H' ∧ Ow K B' H' t' v A' ∧ ∀ q ∈ A', q ∈ A1 ∨ H q = none := fun d t' σ' en' B' H' hE e => by
        split at e
        · rename_i t2 hj
          cases e
          obtain ⟨v2, A2, h2, w2, f2, z2⟩ := hE.own_tree hj rfl
          have ro := hE.root j t' _ hj h2
          cases ro
          refine ⟨A2, aft_of hE.ext, w2, fun q hq => ?_⟩
          by_cases c : q ∈ A1
          · exact .inl c
          · have := z2 q hq
            have : hole H A1 q = none := this
            rw [hole_out c] at this
            exact .inr this
        · cases e
      refine hd.c B ⟨hole H A1, fun _ => v⟩ B H (L2.start N vs) (entryP N.length j tr ds) o (entryP_ok hB hv r w1 (by omega)) e1 _ ?_ ?_
      · cases o with
        | nx en =>
          intro σ' B' H' x hE
          have e : (match en[j]? with | some (.par t') => some (D.non, t') | _ => none) = some (d, tr') := e
          have ed : d = .non := by
            split at e
            · cases e; rfl
            · cases e
          subst ed
          obtain ⟨A', a, w', f'⟩ := fin .non tr' σ' en B' H' hE e
          exact kq .non B' H' A' a .non w' f'
        | rt d => cases e
        | bk en => cases e
        | ct en => cases e
        | rm t2 en =>
          cases t2 with
          | lf d2 =>
            intro u A2 σ' B' H' x hE w2 _
            have e : (match en[j]? with | some (.par t') => some (d2, t') | _ => none) = some (d, tr') := e
            have ed : d = d2 := by
              split at e
              · cases e; rfl
              · cases e
            subst ed
            cases w2 with
            | lf r2 =>
              obtain ⟨A', a, w', f'⟩ := fin d tr' σ' en B' H' hE e
              exact kq u B' H' A' a r2 w' f'
          | ls a => cases e
          | dk a b => cases e
          | dt a b => cases e
          | ob a b c => cases e
      · cases o with
        | nx en => trivial
        | rt d => cases e
        | bk en => cases e
        | ct en => cases e
        | rm t2 en =>
          intro d2 c ns fs ht hx C hC σ' B' H' xs dA hE hd r2
          subst ht
          have e : (match en[j]? with | some (.par t') => some (d2, t') | _ => none) = some (d, tr') := e
          have ed : d = d2 := by
            split at e
            · cases e; rfl
            · cases e
          subst ed
          obtain ⟨A', a, w', f'⟩ := fin d tr' σ' en B' H' hE e
          exact kx c ns fs hx C hC B' H' A' xs dA a w' f' hd r2
    · rw [if_neg hl] at e; cases e
end
end DD

namespace DD
open PySem PySem.Spec PyProof.Rows L2 Evl SUP
def obM (C m : Str) : Tr → Bool
  | .ob C' ns _ => decide (C' = C ∧ m ∉ ns)
  | _ => false
section
variable {K : PySem.W.Frag} {B H B0 : Hp} {H0 : HB} {σ : L2.St} {en : En} {C m : Str} {Ca : Addr}
theorem lookup_no : ∀ {fs : List (Str × V)} {m : Str}, m ∉ fs.map (·.1) → fs.lookup m = none
  | [], _, _ => rfl
  | (n, v) :: fs, m, h => by
    rw [List.map_cons] at h
    rw [lookup_cons', if_neg fun z => h (by simp only [z]; exact List.mem_cons_self)]
    exact lookup_no fun z => h (List.mem_cons_of_mem _ z)
theorem ob_meth {t : Tr} {v : V} {A : List Addr} (h : obM C m t = true) (hC : PySem.W.nsIn K mainGlobals C = some (some (.ref Ca))) (w : Ow K B H t v A) : ∃ a dx fs, v = .ref a ∧ H a = some (.ins Ca dx fs) ∧ fs.lookup m = none := by
  cases t with
  | ob C' ns ts =>
    obtain ⟨rfl, hm⟩ := of_decide_eq_true h
    cases w with
    | ob h1 h2 h3 h4 h5 h6 h7 h8 h9 h10 =>
      rw [hC] at h1
      cases h1
      exact ⟨_, _, _, rfl, h4, lookup_no (by rw [h10]; exact hm)⟩
  | _ => cases h
end
section
variable {K : PySem.W.Frag} {X : Cx} {pos apos : Pos} {e o : Expr} {es : List Expr} {tr : TA} {fr : En → Option (List D)} {B H B0 : Hp} {H0 : HB} {σ : L2.St} {en : En} {W : XK} {i : Nat} {C m : Str} {Ca g : Addr} {fd : FuncData} {ps : List Str} {k : Nat} {F : Tr → List D → Option (D × Tr)}
theorem meth_core {E : XK} {ds : List D} {s : Sl} {t t' : Tr} {d : D} (hC : PySem.W.nsIn K mainGlobals C = some (some (.ref Ca))) (hE : EnOk K B0 H0 B H σ en) (ha : CA K tr fr) (e1 : fr en = some ds) (e2 : en[i]? = some s) (e3 : slT s = some t) (e0 : obM C m t = true) (e4 : F t ds = some (d, t')) {Q : VK}
    (kq : ∀ u B' H', Ex B B' → EnOk K B0 H0 B' H' σ (en.set i (setS s t')) → Rp K B' u d → Q u H')
    (kx : ∀ c ns fs, excOf d = some (c, ns, fs) → ∀ Ce, PySem.W.nsIn K mainGlobals c = some (some (.ref Ce)) → ∀ B' H' xs dA, Ex B B' → EnOk K B0 H0 B' H' σ (en.set i (setS s t')) → H' dA = some (.xd ((ns.zip xs).reverse)) → RpAll K B' xs fs → E (.ref Ce) (some dA) H') :
    tMeth Ca m (spPX K 0 F) [] E (tVar i) tr σ H Q := by
  obtain ⟨v, A, hv, w, _, _⟩ := hE.own_tree e2 e3
  obtain ⟨a, dx, fs, rfl, ha', l⟩ := ob_meth e0 hC w
  refine ⟨.ref a, hv, a, dx, fs, rfl, ha', l, ha B0 H0 B H σ en ds hE e1 _ fun vs B1 H1 x r => ?_⟩
  have w1 := Ow.ext x t _ A w
  refine ⟨B1, ds, t, .ref a, A, d, t', x.bh, rfl, by rw [List.append_nil]; exact r, w1, e4, fun u B2 H2 A' af ru w' f => ?_, fun c ns fs' hx Ce hCe B2 H2 A' xs dA af w' f hd rr => ?_⟩
  · exact kq u B2 H2 (x.bb.trans af.bb) ((hE.up x).aft e2 e3 hv w1 af w' f) ru
  · exact kx c ns fs' hx Ce hCe B2 H2 xs dA (x.bb.trans af.bb) ((hE.up x).aft e2 e3 hv w1 af w' f) hd rr
def callM (i : Nat) (C m : Str) (F : Tr → List D → Option (D × Tr)) (fr : En → Option (List D)) : En → Option (D × En) := fun en => (fr en).bind fun ds => (en[i]?).bind fun s => (slT s).bind fun t => if obM C m t = true then (F t ds).map fun q => (q.1, en.set i (setS s q.2)) else none
theorem callM_some {q : D × En} (h : callM i C m F fr en = some q) : ∃ ds s t t', fr en = some ds ∧ en[i]? = some s ∧ slT s = some t ∧ obM C m t = true ∧ F t ds = some (q.1, t') ∧ q.2 = en.set i (setS s t') := by
  obtain ⟨ds, e1, h⟩ := obind h
  obtain ⟨s, e2, h⟩ := obind h
  obtain ⟨t, e3, h⟩ := obind h
  obtain ⟨e0, h⟩ := oite' h
  obtain ⟨p, e4, rfl⟩ := omap h
  exact ⟨ds, s, t, p.2, e1, e2, e3, e0, e4, rfl⟩
def callMV (i : Nat) (C m : Str) (F : Tr → List D → Option (D × Tr)) (fr : En → Option (List D)) : En → Option (D × En) := fun en => (callM i C m F fr en).bind fun q => match excOf q.1 with
  | none => some q
  | some _ => none
theorem callMV_some {q : D × En} (h : callMV i C m F fr en = some q) : callM i C m F fr en = some q ∧ excOf q.1 = none := by
  obtain ⟨p, e1, h⟩ := obind h
  split at h
  · rename_i hx; cases h; exact ⟨e1, hx⟩
  · cases h
theorem ce_meth {Q : VK} {q : D × En} (hC : PySem.W.nsIn K mainGlobals C = some (some (.ref Ca))) (ha : CA K tr fr) (hE : EnOk K B0 H0 B H σ en) (h : callMV i C m F fr en = some q) (kq : ∀ u B' H', Ex B B' → EnOk K B0 H0 B' H' σ q.2 → Rp K B' u q.1 → Q u H') : tMeth Ca m (spPX K 0 F) [] E0 (tVar i) tr σ H Q := by
  obtain ⟨h, hx⟩ := callMV_some h
  obtain ⟨ds, s, t, t', e1, e2, e3, e0, e4, e5⟩ := callM_some h
  refine meth_core hC hE ha e1 e2 e3 e0 e4 (fun u B' H' x hE' r => kq u B' H' x (by rw [e5]; exact hE') r) fun c ns fs z => ?_
  rw [hx] at z
  cases z
theorem pe_methX {pl : Sem Bool} (c : Cls X.K Ca) (hm : Meth X.K Ca m g) (G : FnOk X.prog X.w X.K X.mg X.base (L2.CX X.prog X.w) k g fd ps (spPX X.K 0 F)) (hr : Room k X.A) (hb : Binds X.K fd ps []) (hx : PE X o (tVar i)) (ha : PA X (e :: es) tr)
    (hst : starEach (e :: es) X.env = (false, eval e X.env) :: starEach es X.env := by rfl) (hpl : (backTo pos (starEach es X.env)).any (·.1) = false := by rfl)
    (ht : eval (.Call (.Attribute o m apos) (e :: es) [] pos) X.env = (do
      let ov ← eval o X.env
      standAt apos.atName
      let (f, first) ← holding [ov] (getMethod ov m pl)
      callWith pos f first (backTo pos (starEach (e :: es) X.env)) (backToKw pos (keywordEach [] X.env))) := by rfl) :
    PE X (.Call (.Attribute o m apos) (e :: es) [] pos) (tMeth Ca m (spPX X.K 0 F) [] E0 (tVar i) tr) := pe_meth (pl := pl) hx c hm G hr hb .nil passL ha hst hpl ht
def sDropM (f : En → Option (D × En)) : En → Option Out := fun en => (f en).map fun q => .nx q.2
theorem ds_dropM (hC : PySem.W.nsIn X.K mainGlobals C = some (some (.ref Ca))) (ha : CA X.K tr fr) (hp : PE X e (tMeth Ca m (spPX X.K 0 F) [] E0 (tVar i) tr)) (hs : swapsWith e none pos.line X.env = pure false := by rfl) :
    DS X (.Expr e pos) (tDrop (tMeth Ca m (spPX X.K 0 F) [] E0 (tVar i) tr)) (sDropM (callMV i C m F fr)) := ⟨ps_expr hp hs, fun B0 H0 B H σ en o hE q Dn k => by
  obtain ⟨p, e1, rfl⟩ := omap q
  exact ce_meth hC ha hE e1 fun u B' H' x hE' r => k σ B' H' x hE'⟩
def newM (C : Str) (F : Tr → List D → Option (D × Tr)) (fr : En → Option (List D)) : En → Option Tr := fun en => (fr en).bind fun ds => (F (.ob C [] []) ds).bind fun q => match q.1 with
  | .non => some q.2
  | _ => none
theorem make_core {t' : Tr} (hC : PySem.W.nsIn K mainGlobals C = some (some (.ref Ca))) (ha : CA K tr fr) (hE : EnOk K B0 H0 B H σ en) (h : newM C F fr en = some t') {Q : VK}
    (kq : ∀ v B' H' A', Ext B H B' H' → Ow K B' H' t' v A' → (∀ q ∈ A', H q = none) → Q v H') : tMake Ca (spPX K 0 F) [] E0 tr σ H Q := by
  obtain ⟨ds, e1, h⟩ := obind h
  obtain ⟨⟨d, t2⟩, e2, h⟩ := obind h
  have hd : d = .non ∧ t2 = t' := by
    cases d <;> first | (cases h; exact ⟨rfl, rfl⟩) | cases h
  obtain ⟨rfl, rfl⟩ := hd
  refine ha B0 H0 B H σ en ds hE e1 _ fun vs B1 H1 x r => fun p dx hp hdx ne => ?_
  have hpB : B1 p = none := fresh_back x.bh hp
  have hdB : B1 dx = none := fresh_back x.bh hdx
  have x1 : Ext B1 H1 B1 (upd (upd H1 dx (.own p)) p (.ins Ca dx [])) := (Ext.newM x.bh hdx).trans (Ext.newM (x.bh.trans (Ex.new hdx)) (by rw [upd_ne ne.symm]; exact hp))
  have w0 : Ow K B1 (upd (upd H1 dx (.own p)) p (.ins Ca dx [])) (.ob C [] []) (.ref p) [p, dx] := .ob hC hpB hdB upd_same (by rw [upd_ne ne, upd_same]) .nil ne.symm List.not_mem_nil List.not_mem_nil rfl
  refine ⟨B1, ds, .ob C [] [], .ref p, [p, dx], .non, t2, x1.bh, rfl, by rw [List.append_nil]; exact r, w0, e2, fun u B2 H2 A' af ru w' f => ?_, fun c ns fs z => nomatch z⟩
  cases ru
  refine ⟨rfl, kq _ B2 H2 A' ?_ w' fun q hq => ?_⟩
  · refine ⟨x.bb.trans af.bb, af.bh, fun a u z => ?_, fun a m => ?_⟩
    · have z1 := x.hh _ _ z
      have na : a ∉ [p, dx] := fun y => by
        rcases List.mem_cons.mp y with y | y
        · rw [y, hp] at z1; cases z1
        · rw [List.mem_singleton.mp y, hdx] at z1; cases z1
      have z2 := x1.hh _ _ z1
      rw [af.hh a na (by rw [z2]; exact fun y => nomatch y)]
      exact z2
    · have mm : ∃ u, H a = some u := by
        cases c : H a with
        | none => exact absurd c m.1
        | some u => exact ⟨u, rfl⟩
      obtain ⟨u, hu⟩ := mm
      have z1 := x.hh _ _ hu
      have na : a ∉ [p, dx] := fun y => by
        rcases List.mem_cons.mp y with y | y
        · rw [y, hp] at z1; cases z1
        · rw [List.mem_singleton.mp y, hdx] at z1; cases z1
      have z2 := x1.hh _ _ z1
      rw [af.st a na ⟨(by rw [z2]; exact fun y => (nomatch y)), fun xs y => by rw [z2] at y; exact m.2 xs (hu.trans y)⟩]
      exact x.st a m
  · rcases f q hq with z | z
    · rcases List.mem_cons.mp z with y | y
      · rw [y]; exact ext_fresh x hp
      · rw [List.mem_singleton.mp y]; exact ext_fresh x hdx
    · have : H1 q = none := ext_fresh x1 z
      exact ext_fresh x this
def sNewM (j : Nat) (f : En → Option Tr) : En → Option Out := fun en => (f en).map fun t => .nx (en.set j (.tre t))
end
end DD

namespace DD
open PySem PySem.Spec PyProof.Rows L2 Evl SUP
def tMethS (C : Addr) (m : Str) (sp : Sp) (E : L2.St → XK) (ta : TE) (t : TA) : TE := fun σ H Q => ta σ H fun x H1 => ∃ a dx fs, x = .ref a ∧ H1 a = some (.ins C dx fs) ∧ fs.lookup m = none ∧ t σ H1 fun vs H2 => sp (x :: vs) H2 Q (E σ)
section
variable {X : Cx} {C0 : CXT} {k : Nat} {f Ca : Addr} {fd : FuncData} {ps : List Str} {sp : Sp} {E : L2.St → XK} {m : Str} {pos apos : Pos} {e o : Expr} {es : List Expr} {ta : TE} {t : TA}
theorem pe_methSg {pl : Sem Bool} (he : PE X o ta) (c : Cls X.K Ca) (hm : Meth X.K Ca m f) (F : FnOk X.prog X.w X.K X.mg X.base C0 k f fd ps sp) (hr : Room k X.A) (hb : Binds X.K fd ps []) (hx : ∀ σ, PassesAt C0 X σ (E σ)) (ha : PA X (e :: es) t)
    (hst : starEach (e :: es) X.env = (false, eval e X.env) :: starEach es X.env := by rfl) (hpl : (backTo pos (starEach es X.env)).any (·.1) = false := by rfl)
    (ht : eval (.Call (.Attribute o m apos) (e :: es) [] pos) X.env = (do
      let ov ← eval o X.env
      standAt apos.atName
      let (f, first) ← holding [ov] (getMethod ov m pl)
      callWith pos f first (backTo pos (starEach (e :: es) X.env)) (backToKw pos (keywordEach [] X.env))) := by rfl) :
    PE X (.Call (.Attribute o m apos) (e :: es) [] pos) (tMethS Ca m sp E ta t) := ⟨fun pins s σ H Q I h => by
  refine PySem.W.methodCall_KW (pl := pl) (thn (he.run pins s σ H _ I h) fun u s1 ⟨x, H1, I1, rx, a, dx, fs, ex, ea, l, q⟩ => ?_) ht
  subst ex
  obtain rfl : u = Value.ref a := rx
  refine getmeth_ok I1 ea c hm l ?_
  refine PySem.W.callWith_K (first := [.ref a]) (h₀ := X.base) I.ok.mod.kin hm.kp (thn (ha.run pos pins s1 σ H1 _ I1 q) fun us s2 ⟨vs, H2, I2, r, q2⟩ => ⟨I2.kIn, ?_⟩) hst hpl
  exact run_fnS (us := .ref a :: us) (vs := .ref a :: vs) F hr hb (hx σ) I2 (.cons rfl r) q2⟩
end
structure DEM (X : Cx) (e : Expr) (tc : WX → TE) (f : En → Option (D × En)) : Prop where
  p : ∀ W pn xe, Takes (X.tr pn xe) W → PE (X.tr pn xe) e (tc W)
  c : ∀ (W : WX) B0 H0 B H σ en q, EnOk X.K B0 H0 B H σ en → f en = some q → ∀ Q : VK, (∀ u B' H', Ex B B' → EnOk X.K B0 H0 B' H' σ q.2 → Rp X.K B' u q.1 → Q u H') →
    (∀ c ns fs, excOf q.1 = some (c, ns, fs) → ∀ Ce, PySem.W.nsIn X.K mainGlobals c = some (some (.ref Ce)) → ∀ B' H' xs dA, Ex B B' → EnOk X.K B0 H0 B' H' σ q.2 → H' dA = some (.xd ((ns.zip xs).reverse)) → RpAll X.K B' xs fs → W (.ref Ce) (some dA) σ H') → tc W σ H Q
section
variable {X : Cx} {k : Nat} {g Ca : Addr} {C : Str} {fdd : FuncData} {ps : List Str} {m : Str} {pos apos : Pos} {e o : Expr} {es : List Expr} {tr : TA} {fr : En → Option (List D)} {i : Nat} {F : Tr → List D → Option (D × Tr)}
theorem dem_meth (c : Cls X.K Ca) (hm : Meth X.K Ca m g) (G : FnOk X.prog X.w X.K X.mg X.base (L2.CX X.prog X.w) k g fdd ps (spPX X.K 0 F)) (hr : Room k X.A) (hb : Binds X.K fdd ps []) (hC : PySem.W.nsIn X.K mainGlobals C = some (some (.ref Ca)))
    (hx : ∀ pn xe, PE (X.tr pn xe) o (tVar i)) (ha : ∀ pn xe, DA (X.tr pn xe) (e :: es) tr fr)
    (hst : ∀ pn xe, starEach (e :: es) (X.tr pn xe).env = (false, eval e (X.tr pn xe).env) :: starEach es (X.tr pn xe).env := by intro _ _; rfl) (hpl : ∀ pn xe, (backTo pos (starEach es (X.tr pn xe).env)).any (·.1) = false := by intro _ _; rfl)
    (ht : ∀ pn xe, eval (.Call (.Attribute o m apos) (e :: es) [] pos) (X.tr pn xe).env = (do
      let ov ← eval o (X.tr pn xe).env
      standAt apos.atName
      let (f, first) ← holding [ov] (getMethod ov m (do return (← importBound o (X.tr pn xe).env).getD true))
      callWith pos f first (backTo pos (starEach (e :: es) (X.tr pn xe).env)) (backToKw pos (keywordEach [] (X.tr pn xe).env))) := by intro _ _; rfl) :
    DEM X (.Call (.Attribute o m apos) (e :: es) [] pos) (fun W => tMethS Ca m (spPX X.K 0 F) (WE W) (tVar i) tr) (callM i C m F fr) :=
  ⟨fun W pn xe tk => pe_methSg (X := X.tr pn xe) (pl := do return (← importBound o (X.tr pn xe).env).getD true) (hx pn xe) c hm G hr hb (fun σ => passAt tk σ) (ha pn xe).p (hst pn xe) (hpl pn xe) (ht pn xe), fun W B0 H0 B H σ en q hE h Q kq kx => by
    obtain ⟨ds, s, t, t', e1, e2, e3, e0, e4, e5⟩ := callM_some h
    have := meth_core (E := fun cls d H => W cls d σ H) (Ca := Ca) (tr := tr) (fr := fr) hC hE (ha [] (fun _ _ => False)).c e1 e2 e3 e0 e4 (Q := Q) (fun u B' H' x hE' r => kq u B' H' x (by rw [e5]; exact hE') r) fun c ns fs hx Ce hCe B' H' xs dA x hE' hd rr => kx c ns fs hx Ce hCe B' H' xs dA x (by rw [e5]; exact hE') hd rr
    obtain ⟨x, h1, a, dx, fs, h2, h3, h4, h5⟩ := this
    refine ⟨x, h1, a, dx, fs, h2, h3, h4, ?_⟩
    have h6 : tr σ H fun vs H2 => spPX X.K 0 F (x :: (vs ++ [])) H2 Q (fun cls d H => W cls d σ H) := h5
    simp only [List.append_nil] at h6
    exact h6⟩
end
section
variable {X : Cx} {pos : Pos} {e : Expr} {rS : List V → L2.St → Hp → Ends → Prop}
end
section
variable {X : Cx} {pos : Pos} {e : Expr} {rS : Addr → Value → Option Addr → TS} {gS : List D → En → Option Out}
end
end DD

namespace DD
open PySem PySem.Spec PyProof.Rows L2 Evl SUP
section
variable {K : PySem.W.Frag} {B H B' H' : Hp}
theorem owall_lf : ∀ {vs : List V} {ds : List D}, RpAll K B vs ds → OwAll K B H (ds.map Tr.lf) vs []
  | _, _, .nil => .nil
  | _, _, .cons r t => .cons (A := []) (A' := []) (.lf r) (owall_lf t) fun _ z => (List.not_mem_nil z).elim
theorem owall_lf' : ∀ {ds : List D} {vs : List V} {A : List Addr}, OwAll K B H (ds.map Tr.lf) vs A → RpAll K B vs ds ∧ A = []
  | [], _, _, w => by cases w; exact ⟨.nil, rfl⟩
  | d :: ds, _, _, w => by
    rw [List.map_cons] at w
    cases w with
    | cons a b c =>
      cases a with
      | lf r =>
        obtain ⟨h1, h2⟩ := owall_lf' b
        subst h2
        exact ⟨.cons r h1, rfl⟩
theorem fld_chg {f : Str} : ∀ {fs : List (Str × V)} {ns : List Str} {ts : List Tr} {A : List Addr} {t : Tr}, fs.map (·.1) = ns → OwAll K B H ts (fs.map (·.2)) A → fieldT ns ts f = some t →
    ∃ v A0, fs.lookup f = some v ∧ Ow K B H t v A0 ∧ (∀ q ∈ A0, q ∈ A) ∧ ∀ (B' H' : Hp) (t' : Tr) (A1 : List Addr), Ex B B' → (∀ q ∈ A, q ∉ A0 → H' q = H q ∧ B' q = none) → Ow K B' H' t' v A1 → (∀ q ∈ A1, q ∈ A0 ∨ q ∉ A) →
      ∃ A', OwAll K B' H' (setT ns ts f t').2 (fs.map (·.2)) A' ∧ (setT ns ts f t').1 = ns ∧ ∀ q ∈ A', q ∈ A ∨ q ∈ A1
  | [], ns, ts, A, t, h1, h2, h3 => by
    subst h1
    cases h2
    cases h3
  | (n, x) :: fs, ns, ts, A, t, h1, h2, h3 => by
    subst h1
    rw [List.map_cons] at h2
    cases h2 with
    | cons a b c =>
      rename_i tt tts Ah At
      rw [List.map_cons] at h3 ⊢
      unfold fieldT at h3
      simp only at h3
      rw [lookup_cons']
      by_cases e : n = f
      · rw [if_pos e] at h3 ⊢
        cases h3
        refine ⟨x, Ah, rfl, a, fun q hq => List.mem_append_left _ hq, fun B' H' t' A1 xb kp w hn => ?_⟩
        unfold setT
        simp only
        rw [if_pos e, List.map_cons]
        refine ⟨A1 ++ At, .cons w (OwAll.mono xb _ _ _ b fun q hq => kp q (List.mem_append_right _ hq) fun z => c q z hq) fun q hq hq2 => ?_, rfl, fun q hq => ?_⟩
        · rcases hn q hq with z | z
          · exact c q z hq2
          · exact z (List.mem_append_right _ hq2)
        · exact (List.mem_append.mp hq).elim .inr fun z => .inl (List.mem_append_right _ z)
      · rw [if_neg e] at h3 ⊢
        obtain ⟨v, A0, l, w0, s0, step⟩ := fld_chg (fs := fs) rfl b h3
        refine ⟨v, A0, l, w0, fun q hq => List.mem_append_right _ (s0 q hq), fun B' H' t' A1 xb kp w hn => ?_⟩
        obtain ⟨A', w', e', f'⟩ := step B' H' t' A1 xb (fun q hq hq0 => kp q (List.mem_append_right _ hq) hq0) w fun q hq => (hn q hq).imp id fun z y => z (List.mem_append_right _ y)
        unfold setT
        simp only
        rw [if_neg e, List.map_cons]
        refine ⟨Ah ++ A', .cons (Ow.mono xb _ _ _ a fun q hq => kp q (List.mem_append_left _ hq) fun z => c q hq (s0 q z)) w' fun q hq hq2 => ?_, by rw [e'], fun q hq => ?_⟩
        · rcases f' q hq2 with z | z
          · exact c q hq z
          · rcases hn q z with y | y
            · exact c q hq (s0 q y)
            · exact y (List.mem_append_left _ hq)
        · rcases List.mem_append.mp hq with z | z
          · exact .inl (List.mem_append_left _ z)
          · exact (f' q z).imp (List.mem_append_right _) id
end
section
variable {K : PySem.W.Frag} {X : Cx} {pos pos' apos cpos : Pos} {B H B0 : Hp} {H0 : HB} {σ : L2.St} {en : En} {C f : Str} {Ca : Addr} {i : Nat} {o e : Expr} {te : TE} {fe : En → Option D} {g : En → Option (List D)}
theorem ds_setFd (hC : PySem.W.nsIn X.K mainGlobals C = some (some (.ref Ca))) (c : Cls X.K Ca) (n : NoAttr X.K Ca f) (hx : PE X o (tVar i)) (he : DE X e te fe) (hs : swapsWith e (some (.Attribute o f pos')) pos.line X.env = pure false := by rfl) :
    DS X (.Assign [.Attribute o f pos'] e pos) (sFld X.K (tVar i) te f) (sSetF i C f fun en => (fe en).map Tr.lf) := ⟨ps_fld hx he.p hs, cs_setF hC c n fun B0 H0 B H σ en t hE h Q k => by
  obtain ⟨d, e1, rfl⟩ := omap h
  exact he.c B0 H0 B H σ en d hE e1 _ fun v B' H' x r => k v B' H' [] x (.lf r) fun _ z => (List.not_mem_nil z).elim⟩
theorem ds_setFl (hC : PySem.W.nsIn X.K mainGlobals C = some (some (.ref Ca))) (c : Cls X.K Ca) (n : NoAttr X.K Ca f) (hx : PE X o (tVar i)) (he : DL X e te g) (hs : swapsWith e (some (.Attribute o f pos')) pos.line X.env = pure false := by rfl) :
    DS X (.Assign [.Attribute o f pos'] e pos) (sFld X.K (tVar i) te f) (sSetF i C f fun en => (g en).map fun ds => .ls (ds.map Tr.lf)) := ⟨ps_fld hx he.p hs, cs_setF hC c n fun B0 H0 B H σ en t hE h Q k => by
  obtain ⟨ds, e1, rfl⟩ := omap h
  exact he.c B0 H0 B H σ en ds hE e1 _ fun p vs B' H' x hn hb hp r => k (.ref p) B' H' [p] x (.ls hb hp (owall_lf r) List.not_mem_nil) fun q hq => by rw [List.mem_singleton.mp hq]; exact hn⟩
def sAppF (i : Nat) (C f : Str) (fe : En → Option D) : En → Option Out := fun en => (fe en).bind fun d => (en[i]?).bind fun s => (slT s).bind fun u => match u with
  | .ob C' ns ts => if C' = C then (match fieldT ns ts f with
    | some (.ls us) => if us.length ≤ lim then some (.nx (en.set i (setS s (.ob C ns (setT ns ts f (.ls (us ++ [.lf d]))).2)))) else none
    | _ => none) else none
  | _ => none
theorem ow_app {us : List Tr} {vs : List V} {A : List Addr} {d : D} {v : V} (h : OwAll K B H us vs A) (r : Rp K B v d) : OwAll K B H (us ++ [.lf d]) (vs ++ [v]) A := by
  induction us generalizing vs A with
  | nil =>
    cases h
    exact .cons (A := []) (A' := []) (.lf r) .nil fun _ z => (List.not_mem_nil z).elim
  | cons t us ih =>
    cases h with
    | cons a b c =>
      rw [List.cons_append, List.cons_append]
      exact .cons a (ih b) c
theorem ow_len : ∀ {us : List Tr} {vs : List V} {A : List Addr}, OwAll K B H us vs A → vs.length = us.length
  | [], _, _, h => by cases h; rfl
  | t :: us, _, _, h => by
    cases h with
    | cons a b c => rw [List.length_cons, List.length_cons, ow_len b]
theorem ds_appF (hC : PySem.W.nsIn X.K mainGlobals C = some (some (.ref Ca))) (c : Cls X.K Ca) (n : NoAttr X.K Ca f) (hx : PE X o (tVar i)) (he : DE X e te fe) (hb : attributeBase o f X.env (eval o X.env) = eval o X.env := by rfl)
    (hbase : attributeBase (.Attribute o f pos') "append" X.env (eval (.Attribute o f pos') X.env) = eval (.Attribute o f pos') X.env := by rfl)
    (hfew : ((backTo cpos (starEach (e :: []) X.env)).all (fun x => !x.1) && (backToKw cpos (keywordEach [] X.env)).all (fun x => x.1.isSome)
      && decide ((e :: []).length + ([] : List Keyword).length + (if ([] : List Keyword).isEmpty then 0 else 1) < 30)) = true := by rfl)
    (hline : (apos.endLine == cpos.line) = true := by rfl) (hs : starEach (e :: []) X.env = (false, eval e X.env) :: starEach [] X.env := by rfl) (hplain : (backTo cpos (starEach [] X.env)).any (·.1) = false := by rfl)
    (hsw : swapsWith (.Call (.Attribute (.Attribute o f pos') "append" apos) [e] [] cpos) none pos.line X.env = pure false := by rfl) :
    DS X (.Expr (.Call (.Attribute (.Attribute o f pos') "append" apos) [e] [] cpos) pos) (tDrop (tBM X.K "list" rAppend (tFld X.K (tVar i) f) (tCons te tNil))) (sAppF i C f fe) :=
  ⟨ps_expr (pe_bm PySem.F.plainAttrs_list PySem.F.slot_list_append PySem.F.type_list_append mt_append (pe_fld hx hb) (pa_cons he.p pa_nil hs) hbase hfew hline hs hplain) hsw, fun B0 H0 B H σ en out hE q Dn k => by
    obtain ⟨d, e1, q⟩ := obind q
    obtain ⟨s, hi, q⟩ := obind q
    obtain ⟨u, hu, q⟩ := obind q
    split at q
    · rename_i C' ns ts
      obtain ⟨rfl, q⟩ := oite' q
      split at q
      · rename_i us ht
        obtain ⟨hl, rfl⟩ := oite q
        obtain ⟨r0, A, hr, w0, wf, wg⟩ := hE.own_tree hi hu
        clear wf wg
        have fr := fun q hq => Ow.free _ _ _ w0 q hq
        have w0' := w0
        cases w0 with
        | ob h1 h2 h3 h4 h5 h6 h7 h8 h9 h10 =>
          rename_i a dx fs A2
          rw [hC] at h1
          cases h1
          obtain ⟨v, A0, lk, wl, sub, step⟩ := fld_chg h10 h6 ht
          cases wl with
          | ls b1 b2 b3 b4 =>
            rename_i l vs A3
            have la : l ∈ A2 := sub l List.mem_cons_self
            have nla : l ≠ a := fun z => h8 (z ▸ la)
            have nld : l ≠ dx := fun z => h9 (z ▸ la)
            refine ⟨.ref a, hr, a, Ca, dx, fs, .ref l, rfl, h4, c, n, lk, ?_, ?_⟩
            · exact .inl ⟨rfl, vs, SqL.of b2⟩
            · refine he.c B0 H0 B H σ en d hE e1 _ fun w B1 H1 x r => ?_
              have keep : ∀ q ∈ a :: dx :: A2, H1 q = H q ∧ B1 q = none := fun q hq => ⟨by
                cases cc : H q with
                | none => exact absurd cc (fr q hq).2.1
                | some u => exact x.hh _ _ cc, (x.st q (fr q hq).2).trans (fr q hq).1⟩
              have hl1 : H1 l = some (.lst vs) := (keep l (by simp [la])).1.trans b2
              refine ⟨l, vs, w, rfl, rfl, hl1, lim_lt (by rw [ow_len b3]; exact hl), ?_⟩
              have wnew : Ow X.K B1 (upd H1 l (.lst (vs ++ [w]))) (.ls (us ++ [.lf d])) (.ref l) (l :: A3) := by
                refine .ls (keep l (by simp [la])).2 upd_same (ow_app (OwAll.mono x.bb _ _ _ b3 fun q hq => ?_) r) b4
                have qa : q ∈ A2 := sub q (List.mem_cons_of_mem _ hq)
                have nql : q ≠ l := fun z => b4 (z ▸ hq)
                exact ⟨(upd_ne nql).trans (keep q (by simp [qa])).1, (keep q (by simp [qa])).2⟩
              obtain ⟨A', w', ens, fA⟩ := step B1 (upd H1 l (.lst (vs ++ [w]))) (.ls (us ++ [.lf d])) (l :: A3) x.bb (fun q hq hq0 => ⟨(upd_ne fun z => hq0 (by rw [z]; exact List.mem_cons_self)).trans (keep q (by simp [hq])).1, (keep q (by simp [hq])).2⟩) wnew fun q hq => .inl hq
              have fA' : ∀ q ∈ A', q ∈ A2 := fun q hq => (fA q hq).elim id fun z => sub q z
              refine k σ B1 _ x.bb (hE.aft hi hu hr w0' (t' := .ob _ ns (setT ns ts f (.ls (us ++ [.lf d]))).2) (A' := a :: dx :: A') ⟨x.bb, Ex.mut x.bh (keep l (by simp [la])).2, fun q hq hn => ?_, fun q hq m => x.st q m⟩ (.ob hC (keep a (by simp)).2 (keep dx (by simp)).2 ((upd_ne nla.symm).trans ((keep a (by simp)).1.trans h4)) ((upd_ne nld.symm).trans ((keep dx (by simp)).1.trans h5)) w' h7 (fun z => h8 (fA' a z)) (fun z => h9 (fA' dx z)) h10) fun q hq => .inl ?_)
              · rw [upd_ne fun z => hq (by rw [z]; simp [la])]
                cases cc : H q with
                | none => exact absurd cc hn
                | some u => exact x.hh _ _ cc
              · rcases List.mem_cons.mp hq with z | hq
                · simp [z]
                rcases List.mem_cons.mp hq with z | hq
                · simp [z]
                · simp [fA' q hq]
      · cases q
    · cases q⟩
end
end DD

namespace DD
open PySem PySem.Spec PyProof.Rows L2 Evl
def keyL (G : List D → Option D) : List D → Option (List D)
  | [] => some []
  | d :: r => (G [d]).bind fun k => (keyL G r).map (k :: ·)
def srtK (G : List D → Option D) (ds : List D) : Option (List D) := (keyL G ds).bind fun ks => if srtOk ks = true then some (((ds.zip ks).mergeSort fun x y => leD x.2 y.2).map (·.1)) else none
theorem keyL_at {G : List D → Option D} : ∀ {ds ks : List D}, keyL G ds = some ks → ks.length = ds.length ∧ ∀ (i : Nat) (d k : D), ds[i]? = some d → ks[i]? = some k → G [d] = some k
  | [], _, h => by
    cases h
    exact ⟨rfl, fun i d k e => nomatch e⟩
  | d :: r, ks, h => by
    obtain ⟨k, e1, h⟩ := obind h
    obtain ⟨ks', e2, rfl⟩ := omap h
    obtain ⟨h1, h2⟩ := keyL_at e2
    refine ⟨by rw [List.length_cons, List.length_cons, h1], fun i d' k' a b => ?_⟩
    cases i with
    | zero =>
      rw [List.getElem?_cons_zero] at a b
      cases a
      cases b
      exact e1
    | succ i =>
      rw [List.getElem?_cons_succ] at a b
      exact h2 i d' k' a b
theorem ext_updN {B0 H0 B H : Hp} {p : Addr} {o : HO} (x : Ext B0 H0 B H) (h0 : H0 p = none) (hB : B p = none) : Ext B0 H0 B (upd H p o) :=
  ⟨x.bb, Ex.mut x.bh hB, fun a u e => (upd_ne fun z => by rw [z, h0] at e; cases e).trans (x.hh a u e), x.st⟩
theorem vals_eachP {β : Type} {f : β → V} : ∀ {bs : List β} {us : List Value}, PySem.W.EachIs (fun u (b : β) => RelV (f b) u) us bs → Vals (bs.map f) us
  | _, _, .nil => .nil
  | _, _, .cons h t => .cons h (vals_eachP t)
theorem each_valsP {β : Type} {f : β → V} : ∀ {bs : List β} {us : List Value}, Vals (bs.map f) us → PySem.W.EachIs (fun u (b : β) => RelV (f b) u) us bs
  | [], _, h => by
    cases h
    exact .nil
  | b :: bs, _, h => by
    cases h with
    | cons h1 h2 => exact .cons h1 (each_valsP h2)
theorem reads_each {X : Cx} {pins : List (Addr × Obj)} {σ : L2.St} {B H : Hp} {s : Shared} (I : L2.Inv X pins σ H s) (hE : Ex B H) : ∀ {vs : List V} {us : List Value} {ds : List D}, Vals vs us → RpAll X.K B vs ds → deepAll 58 ds = true → PySem.W.EachIs (fun v d => ∃ as, Reads s.heap v d as) us (ds.map py)
  | _, _, _, .nil, h, _ => by
    cases h
    exact .nil
  | _, _, _, .cons r t, h, q => by
    cases h with
    | cons h1 h2 =>
      rename_i d ds
      rw [deepAll, Bool.and_eq_true] at q
      rw [List.map_cons]
      exact .cons (Dp.reads I (py d) _ _ (Rp.dp d 58 _ q.1 (h1.up hE)) r) (reads_each I hE t h2 q.2)
theorem zip_rp3 {K : PySem.W.Frag} {B : Hp} : ∀ {vs : List V} {ds ks : List D}, RpAll K B vs ds → ∀ b ∈ vs.zip (ds.zip ks), Rp K B b.1 b.2.1
  | _, _, _, .nil, b, h => by
    rw [List.zip_nil_left] at h
    cases h
  | _, _, [], .cons r t, b, h => by
    rw [List.zip_nil_right, List.zip_nil_right] at h
    cases h
  | _, _, k :: ks, .cons r t, b, h => by
    rw [List.zip_cons_cons, List.zip_cons_cons] at h
    rcases List.mem_cons.mp h with rfl | h
    · exact r
    · exact zip_rp3 t b h
theorem rp_map3 {K : PySem.W.Frag} {B : Hp} : ∀ {bs : List (V × D × D)}, (∀ b ∈ bs, Rp K B b.1 b.2.1) → RpAll K B (bs.map (·.1)) (bs.map (·.2.1))
  | [], _ => .nil
  | b :: bs, h => .cons (h b List.mem_cons_self) (rp_map3 fun c hc => h c (List.mem_cons_of_mem _ hc))
def phiE (a : Addr) (e : Nat) : Heap → Prop := fun h => h.get? a = some (seqObj "list" #[] e)
structure SkSt (X : Cx) (pins : List (Addr × Obj)) (σ : L2.St) (B0 H0 : Hp) (a S : Addr) (e1 : Nat) (B H : Hp) (s : Shared) : Prop where
  inv : L2.Inv X pins σ H s
  ext : Ext B0 H0 B H
  hA : H a = some (.ext (phiE a e1))
  bA : B a = none
  fS : FpOk X pins H S
section
variable {X : Cx} {A : Around} {pins : List (Addr × Obj)} {σ : L2.St} {H : Hp} {s : Shared}
theorem SkSt.set {B0 H0 B : Hp} {a S : Addr} {e1 : Nat} {f : Array Value → Array Value} (m : SkSt X pins σ B0 H0 a S e1 B H s) : SkSt X pins σ B0 H0 a S e1 B H { s with heap := s.heap.update S (Obj.mapSeq f) } := by
  refine ⟨m.inv.turnedL (t' := s.toks) (ch := [S]) (fun b o hb e => ?_) (fun b hb => ?_), m.ext, m.hA, m.bA, m.fS⟩
  · have : b ≠ S := fun z => hb (by rw [z]; exact List.mem_singleton.mpr rfl)
    exact (Heap.get?_update_other _ _ (Ne.symm this)).trans e
  · rw [List.mem_singleton.mp hb]; exact m.fS
theorem sk_key {k : Nat} {f : Addr} {fd : FuncData} {ps : List Str} {G : List D → Option D} {E : Value → Shared → Prop} (hfr : A.frames = X.A.frames) (hhd : A.handled = X.A.handled) (Fok : FnOk X.prog X.w X.K X.mg X.base CX0 k f fd ps (spD X.K G)) (room : Room k A) (hb : Binds X.K fd ps [])
    {B0 H0 B : Hp} {a S : Addr} {e1 : Nat} {o : Obj} (m : SkSt X pins σ B0 H0 a S e1 B H s) (hS : s.heap.get? S = some o) (hS2 : ∀ v : Option Value, o.data ≠ .cell v) {x : V} {v : Value} {d kd : D} (rv : RelV x v) (rx : Rp X.K B x d) (hG : G [d] = some kd)
    {Q : Value → Shared → Prop} (hQ : ∀ kv u B' H' s', SkSt X pins σ B0 H0 a S e1 B' H' s' → Ext B H B' H' → s'.heap.get? S = some o → RelV kv u → Rp X.K B' kv kd → Q u s') :
    wpAny (model X.prog X.w) A (call (.ref f) [v]) Q E s := by
  have I1 : L2.Inv (CxA X A) (pins ++ [(S, o)]) σ H s := by
    refine (inv_A hfr hhd m.inv).pins_of fun q hq => ?_
    rcases List.mem_append.mp hq with hq | hq
    · exact m.inv.pin q (List.mem_append_right _ hq)
    · rcases List.mem_singleton.mp hq with rfl
      exact ⟨hS, m.fS.1, m.fS.2.1, m.fS.2.2.1, hS2⟩
  have hsp : spD X.K G ([x] ++ []) H (fun v' H' => ∃ B', Ext B H B' H' ∧ Rp X.K B' v' kd) E0 :=
    ⟨B, [d], kd, m.ext.bh, .cons rx .nil, hG, fun v' B' H' e r => ⟨B', e, r⟩⟩
  have run := run_fn (X := (CxA X A).wish E) (ds := []) (dvs := []) (CX := CX0) (E := E0) Fok room hb .nil pass0 (I1.wish E) (.cons rv .nil) hsp
  refine wpAny_mono run (fun u s' hr => ?_) (fun e s' h => h)
  obtain ⟨kv, H', I2, ru, B', ex, r⟩ := hr
  have I3 : L2.Inv (CxA X A) (pins ++ [(S, o)]) σ H' s' := I2.unwish
  have pS := I3.pin (S, o) (List.mem_append_right _ (List.mem_append_right _ (by simp)))
  have mt : Mt H a := ⟨by rw [m.hA]; exact (fun z => nomatch z), fun xs z => by rw [m.hA] at z; cases z⟩
  exact hQ kv u B' H' s' ⟨inv_back m.inv.ok I3.unpinned, m.ext.trans ex, ex.hh _ _ m.hA, (ex.st a mt).trans m.bA, fpokUp m.fS pS.2.1⟩ ex pS.1 ru r
theorem sk_rest {k : Nat} {f : Addr} {fd : FuncData} {ps : List Str} {G : List D → Option D} {E : Value → Shared → Prop} (hfr : A.frames = X.A.frames) (hhd : A.handled = X.A.handled) (Fok : FnOk X.prog X.w X.K X.mg X.base CX0 k f fd ps (spD X.K G)) (room : Room k A) (hb : Binds X.K fd ps [])
    {B0 H0 : Hp} {a S : Addr} {e1 : Nat} (hne : S ≠ a) (h0 : H0 a = none) {xs : List V} {its : List Value} {ds out : List D} (hv : Vals xs its) (hr : RpAll X.K B0 xs ds) (hg : srtK G ds = some out) (hZ : its.length ≤ sizeLine) (m : SkSt X pins σ B0 H0 a S e1 B0 H s) (hS : s.heap.get? S = some (seqObj "list" #[] 0))
    {P : PySem.Fin → Shared → Prop} (hP : ∀ vs B' H' s', L2.Inv X pins σ (upd H' a (.lst vs)) s' → Ext B0 H0 B' (upd H' a (.lst vs)) → B' a = none → RpAll X.K B' vs out → P (.done (.ret .none)) s') :
    wpAny (model X.prog X.w) A (PyProof.Rows.ksk_rest a (.ref f) false its.toArray e1 (.ref S)) P E s := by
  obtain ⟨ks0, hk0, hg⟩ := obind hg
  obtain ⟨ok, rfl⟩ := oite hg
  obtain ⟨hkl, hkat⟩ := keyL_at hk0
  obtain ⟨k1, k2, k3⟩ := srt_parts ok
  have hlen : xs.length = ds.length := hr.len
  have hli : xs.length = its.length := hv.length
  unfold PyProof.Rows.ksk_rest
  refine wpAny_bind (wpAny_rule ?_)
  first
    | rw [List.forIn_toArray]
    | (rw [← Array.forIn_toList]; simp only [List.toList_toArray])
  refine wpAny_bind (PyProof.Rows.ksk_fold (fun i s' => ∃ B' H' kA e ks, SkSt X pins σ B0 H0 a S e1 B' H' s' ∧ s'.heap.get? S = some (seqObj "list" kA e) ∧ Vals ks kA.toList ∧ RpAll X.K B' ks (ks0.take i)) its 0 s
    ⟨B0, H, #[], 0, [], m, hS, .nil, by rw [List.take_zero]; exact .nil⟩ ?step ?done)
  case step =>
    rintro j u s' hu ⟨B', H', kA, e, ks, m', hS', hv', hr'⟩
    simp only [Nat.zero_add] at hr' ⊢
    have hj : j < its.length := (List.getElem?_eq_some_iff.mp hu).1
    obtain ⟨x, hx, rx⟩ := hr.get j (List.getElem?_eq_getElem (by omega : j < ds.length))
    obtain ⟨u', hu', ru⟩ := hv.get hx
    rw [hu] at hu'
    cases hu'
    have hkj : ks0[j]? = some (ks0[j]'(by omega)) := List.getElem?_eq_getElem _
    have hz : kA.size ≤ its.length := by
      have h1 := hv'.length
      have h2 := hr'.len
      rw [List.length_take] at h2
      have h3 : kA.toList.length = kA.size := Array.length_toList
      omega
    refine wpAny_bind (wpAny_attempt (sk_key hfr hhd Fok room hb m' hS' (fun q z => nomatch z) ru (rx.up m'.ext.bb) (hkat j _ _ (List.getElem?_eq_getElem (by omega)) hkj) fun kv w B2 H2 s2 m2 ex hS2 rk r2 => ?_))
    try dsimp only
    obtain ⟨c2, hc2⟩ : ∃ c2, (s2.heap.update S (Obj.mapSeq (·.push w))).get? S = some (seqObj "list" (kA.push w) c2) := ⟨_, get?_update_seq hS2 (·.push w)⟩
    refine wpAny_bind (listUpdate_at hS2 rfl ?_ (Nat.le_trans hz hZ) (Nat.le_trans (Nat.le_of_eq (Array.size_push ..)) (Nat.succ_le_succ (Nat.le_trans hz hZ))))
    have et : ks0.take (j + 1) = ks0.take j ++ [ks0[j]'(by omega)] := by rw [List.take_add_one, hkj]; simp
    refine wpAny_pure ⟨rfl, B2, H2, kA.push w, c2, ks ++ [kv], m2.set, hc2, ?_, ?_⟩
    · rw [Array.toList_push]
      exact hv'.append (.cons rk .nil)
    · rw [et]
      exact (hr'.up ex.bb).app (.cons r2 .nil)
  case done =>
    rintro s' ⟨B', H', kA, e, ks, m', hS', hv', hr'⟩
    rw [List.take_of_length_le (by omega)] at hr'
    have hks : kA.size = its.length := by
      have h1 := hv'.length
      have h2 := hr'.len
      have h3 : kA.toList.length = kA.size := Array.length_toList
      omega
    have hk' : PySem.W.EachIs (fun v d => ∃ as, Reads s'.heap v d as) kA.toList (ks0.map py) := reads_each m'.inv m'.ext.bh hv' hr' k1
    obtain ⟨G', g1, g2⟩ := restrict s'.heap fun b => decide (b ≠ S)
    have ha : s'.heap.get? a = some (seqObj "list" #[] e1) := (m'.inv.hok a _ m'.hA).1
    have kp : PySem.W.KeepsBut a G' s'.heap := fun b o hb q => by
      by_cases z : b = S
      · rw [z, g2 S (decide_eq_false fun y => y rfl)] at q; cases q
      · rw [g1 b (decide_eq_true z)] at q; exact q
    try dsimp only
    refine wpAny_bind (listItems_at hS' rfl ?_)
    refine PySem.W.keyH_end (κ := PySem.W.dataKind s'.heap (ks0.map py)) (h₁ := G') kp (g2 S (decide_eq_false fun y => y rfl)) hS' ha hne (PySem.W.SortsAt.data (s := s') hk' k2 k3 fun d hd => ?_) hks hZ fun h' tk c kp' ha' => ?_
    · obtain ⟨q, hq, rfl⟩ := List.mem_map.mp hd
      have z := (deep_up (deepAll_mem k1 q hq)).2
      have zz := room.units
      omega
    · have eb : (xs.zip (ds.zip ks0)).map (·.1) = xs := List.map_fst_zip (by rw [List.length_zip]; omega)
      have eb2 : (xs.zip (ds.zip ks0)).map (·.2) = ds.zip ks0 := List.map_snd_zip (by rw [List.length_zip]; omega)
      have eb3 : (xs.zip (ds.zip ks0)).map (fun b => py b.2.2) = ks0.map py := by
        have : (xs.zip (ds.zip ks0)).map (fun b => py b.2.2) = ((xs.zip (ds.zip ks0)).map (·.2)).map (fun b => py b.2) := by rw [List.map_map] <;> rfl
        rw [this, eb2]
        have : (ds.zip ks0).map (fun b => py b.2) = ((ds.zip ks0).map (·.2)).map py := by rw [List.map_map] <;> rfl
        rw [this, List.map_snd_zip (by omega)]
      have eR : PySem.W.EachIs (fun u (b : V × D × D) => RelV b.1 u) its (xs.zip (ds.zip ks0)) := each_valsP (by rw [eb]; exact hv)
      have eo := PySem.W.keyedOut_each (rev := false) (fun b : V × D × D => py b.2.2) (out := PySem.W.sortVals (PySem.W.dataKind s'.heap (ks0.map py)) false kA.toList its) ⟨s'.heap, kA.toList, by rw [eb3]; exact k2, by rw [eb3], by rw [eb3]; exact hk'⟩ eR
      have vo := vals_eachP eo
      have ol : (PySem.W.sortVals (PySem.W.dataKind s'.heap (ks0.map py)) false kA.toList its).length = its.length := PySem.W.sortVals_length false (by rw [Array.length_toList]; exact hks)
      have rr : RpAll X.K B' (((xs.zip (ds.zip ks0)).mergeSort (PySem.W.dataLe false fun b : V × D × D => py b.2.2)).map (·.1)) (((ds.zip ks0).mergeSort fun x y => leD x.2 y.2).map (·.1)) := by
        have em : ((ds.zip ks0).mergeSort fun x y => leD x.2 y.2) = ((xs.zip (ds.zip ks0)).mergeSort (PySem.W.dataLe false fun b : V × D × D => py b.2.2)).map (·.2) := by
          rw [List.map_mergeSort (r := PySem.W.dataLe false fun b : V × D × D => py b.2.2) (s := fun x y : D × D => leD x.2 y.2) (f := fun z : V × D × D => z.2) (fun _ _ _ _ => rfl), eb2]
        rw [em, List.map_map]
        exact rp_map3 fun b hb => (zip_rp3 (hr.up m'.ext.bb) b (List.mem_mergeSort.mp hb))
      have hmid : (h'.update a fun _ => seqObj "list" #[] e1).get? a = some (seqObj "list" #[] e1) := Heap.get?_update_self _ ha' rfl
      have I1 := m'.inv.turnedL (h' := h'.update a fun _ => seqObj "list" #[] e1) (t' := tk) (ch := [S]) (fun b o hbS q => by
        by_cases z : b = a
        · rw [z, ha] at q
          rw [z, hmid]
          exact q
        · have bS : b ≠ S := fun y => hbS (by rw [y]; exact List.mem_singleton.mpr rfl)
          rw [Heap.get?_update_other _ _ (Ne.symm z)]
          exact kp' b o z (by rw [g1 b (decide_eq_true bS)]; exact q)) (fun b hb => by rw [List.mem_singleton.mp hb]; exact m'.fS)
      have I2 := I1.write (x := a) (e := a) (o := .lst (((xs.zip (ds.zip ks0)).mergeSort (PySem.W.dataLe false fun b : V × D × D => py b.2.2)).map (·.1))) (h' := h') (t' := tk) (by rw [m'.hA]; exact trivial) (.inl rfl) (fun b u hb q => by
        rw [Heap.get?_update_other _ _ (Ne.symm hb)] at q
        exact q) ⟨_, ha'⟩ ⟨by rw [vo.length, ol]; exact hZ, _, c, vo, ha'⟩
      exact hP _ B' H' _ I2 (ext_updN m'.ext h0 m'.bA) m'.bA rr
end
def rSrtKey (X : Cx) (f : Addr) (G : List D → Option D) : List V → List V → Hp → VK → Prop := fun vs zs H Q => ∃ (p : Addr) (B : Hp) (xs : List V) (ds out : List D), vs = [.ref p] ∧ zs = [.ref f] ∧ Ex B H ∧ SqL X.K B p xs ∧ RpAll X.K B xs ds ∧ srtK G ds = some out ∧
  ∀ q ws B' H', Ext B H B' H' → H q = none → B' q = none → H' q = some (.lst ws) → RpAll X.K B' ws out → Q (.ref q) H'
theorem cr_srtKey {X : Cx} {k : Nat} {f : Addr} {fd : FuncData} {ps : List Str} {G : List D → Option D} (hc : X.calm = true) (Fok : FnOk X.prog X.w X.K X.mg X.base CX0 k f fd ps (spD X.K G)) (room : Room (k + 2) X.A) (hb : Binds X.K fd ps []) : CallRK X (.builtin "sorted") [Str.ofString "key"] (rSrtKey X f G) := by
  intro pins s σ H vs zs us ws Q I r rz h
  obtain ⟨p, B, xs, ds, out, rfl, rfl, hE, hq, hr, hg, kq⟩ := h
  obtain rfl := Vals.ref1 r
  obtain ⟨w1, rfl, e1⟩ := vals1 rz
  obtain rfl : w1 = Value.ref f := e1
  obtain ⟨its, rv, pl, hz⟩ := I.list (ex_l hE hq)
  have hZ : its.length ≤ sizeLine := by
    have := rv.length
    omega
  refine PySem.W.sorted_of_sort pl.isList hZ (ksk_s1 _ _) (fun _ => ksk_l1 _ _) fun E' => ?_
  show wpAny _ _ (Builtin.«list.sort» ⟨[Value.ref (s.heap.objs.size + 1)], [(Str.ofString "key", Value.ref f)]⟩) _ _ _
  rw [ksk_t1]
  have ho := PySem.W.copyHeap_at s.heap its
  have ha : s.heap.objs.size + 1 < (PySem.W.copyHeap s.heap its).objs.size := Heap.lt_size ho
  obtain ⟨e0, ho1⟩ : ∃ e0, ((PySem.W.copyHeap s.heap its).update (s.heap.objs.size + 1) (Obj.mapSeq fun _ => (#[] : Array Value))).get? (s.heap.objs.size + 1) = some (seqObj "list" #[] e0) := ⟨_, get?_update_seq ho fun _ => #[]⟩
  unfold ksk_tree
  refine wpAny_bind (listItems_at ho rfl ?_)
  refine wpAny_bind (listUpdate_at ho rfl ?_ (by rw [List.size_toArray]; exact hZ) (Nat.zero_le _))
  refine wpAny_bind (seqEpoch_at ho1 rfl ?_)
  refine wpAny_bind (wpAny_newTuple ?_ (by show its.length ≤ _; exact hZ))
  refine wpAny_bind (wpAny_newList ?_ (Nat.zero_le _))
  refine wpAny_holding ?_
  have h0 : H (s.heap.objs.size + 1) = none := I.hok.fresh (Nat.le_succ _)
  have hT : (((PySem.W.copyHeap s.heap its).update (s.heap.objs.size + 1) (Obj.mapSeq fun _ => (#[] : Array Value))).push (seqObj "tuple" its.toArray 0)).get? (s.heap.objs.size + 1) = some (seqObj "list" #[] e0) := Heap.get?_push_of_some _ ho1
  have Ia : L2.Inv X pins σ (upd H (s.heap.objs.size + 1) (.ext (phiE (s.heap.objs.size + 1) e0))) { s with heap := ((PySem.W.copyHeap s.heap its).update (s.heap.objs.size + 1) (Obj.mapSeq fun _ => (#[] : Array Value))).push (seqObj "tuple" its.toArray 0) } :=
    I.laid (t' := s.toks) (fun b u q => by
      have hb := Heap.lt_size q
      refine Heap.get?_push_of_some _ ?_
      rw [Heap.get?_update_other _ _ (Nat.ne_of_gt (Nat.lt_succ_of_lt hb))]
      exact PySem.W.copyHeap_old q) (Nat.le_succ _) ⟨hT, ⟨_, hT⟩, fun h1 h2 z1 z2 => z2 _ z1⟩
  have Ik : L2.Inv X pins σ (upd H (s.heap.objs.size + 1) (.ext (phiE (s.heap.objs.size + 1) e0))) { s with heap := (((PySem.W.copyHeap s.heap its).update (s.heap.objs.size + 1) (Obj.mapSeq fun _ => (#[] : Array Value))).push (seqObj "tuple" its.toArray 0)).push (seqObj "list" #[] 0) } :=
    Ia.kept (t' := s.toks) fun b u q => Heap.get?_push_of_some _ q
  have hSn := Ia.hok.fresh (Nat.le_refl (((PySem.W.copyHeap s.heap its).update (s.heap.objs.size + 1) (Obj.mapSeq fun _ => (#[] : Array Value))).push (seqObj "tuple" its.toArray 0)).objs.size)
  have hlt := Heap.lt_size hT
  have hB0 : B (s.heap.objs.size + 1) = none := fresh_back hE h0
  exact sk_rest (A := X.A.in1.in1) (B0 := B) (H0 := H) rfl rfl Fok room.in1.in1 hb (Nat.ne_of_gt hlt) h0 rv hr hg hZ
    ⟨Ik, Ext.newM hE h0, upd_same, hB0, Ia.fpOk (Nat.le_refl _) hSn⟩ (Heap.get?_push_size _ rfl)
    fun vs' B' H' s' I' x hB' rr => ⟨rfl, .ref _, _, I', rfl, kq _ vs' B' _ x h0 hB' upd_same rr⟩
section
variable {K : PySem.W.Frag} {X : Cx} {pos : Pos} {a : Expr} {ta : TE} {fa : En → Option D}
def lSrtK (G : List D → Option D) (fa : En → Option D) : En → Option (List D) := fun en => (fa en).bind fun
  | .lst ds => srtK G ds
  | _ => none
theorem dl_srtK {k : Nat} {f : Addr} {fd : FuncData} {ps : List Str} {G : List D → Option D} {x : Str} {p pf pk : Pos} {nm : Option Str} (hc : X.calm = true) (hg : Gl X "sorted") (hm : X.mg "sorted" = none) (Fok : FnOk X.prog X.w X.K X.mg X.base CX0 k f fd ps (spD X.K G)) (room : Room (k + 2) X.A)
    (hgf : Gl X x) (hmf : X.mg x = some (.ref f)) (hb : Binds X.K fd ps []) (ha : DE X a ta fa) (hdb : (x == ("__debug__" : Str)) = false := by decide)
    (he : backTo pos (starEach (a :: []) X.env) = (false, eval a X.env) :: backTo pos (starEach [] X.env) := by rfl) (hs : starEach [a] X.env = (false, eval a X.env) :: starEach [] X.env := by rfl) (hpl : (backTo pos (starEach (a :: []) X.env)).any (·.1) = false := by rfl)
    (hall : (backToKw pos (keywordEach [⟨nm, .Name x pf, pk⟩] X.env)).all (·.1.isSome) = true := by rfl) (hnone : (backToKw pos (keywordEach [⟨nm, .Name x pf, pk⟩] X.env)).any (·.1.isNone) = false := by rfl) (hks : (backToKw pos (keywordEach [⟨nm, .Name x pf, pk⟩] X.env)).filterMap (·.1) = [Str.ofString "key"] := by rfl) :
    DL X (.Call (.Name "sorted" p) [a] [⟨nm, .Name x pf, pk⟩] pos) (tCKw (rSrtKey X f G) (tCons ta tNil) (tCons (tC (.ref f)) tNil)) (lSrtK G fa) :=
  ⟨pe_callBK (cr_srtKey hc Fok room hb) hg hm (by decide +kernel) (pa_cons ha.p pa_nil hs) (pk_cons (pe_glob hgf hmf rfl hdb) pk_nil) (by decide) (by decide) he hpl hall hnone hks, fun B0 H0 B H σ en ds hE e Q k => by
    obtain ⟨x, e1, e⟩ := obind e
    refine ha.c B0 H0 B H σ en x hE e1 _ fun v B1 H1 x1 r => ?_
    split at e
    · cases r with
      | lst s q => exact ⟨_, B1, _, _, ds, rfl, rfl, x1.bh, s, q, e, fun p ws B2 H2 x2 hn hb2 hp rr => k p ws B2 H2 (x1.trans x2) (ext_fresh x1 hn) hb2 hp rr⟩
    · cases e⟩
end
end DD

namespace DD
open PySem PySem.Spec PyProof.Rows L2 Evl SUP
def notRo : Sl → Bool
  | .no => true
  | .dat _ => true
  | _ => false
def thawF (i : Nat) (C f : Str) (en : En) : Option En := ((en.map Sl.thaw)[i]?).bind fun s => match s with
  | .ro (.ob C' ns ts) => if C' = C ∧ ((en.map Sl.thaw).set i .no).all notRo = true then (fieldT ns ts f).bind fun t => (t.d).map fun d => (en.map Sl.thaw).set i (.ro (.ob C ns (setT ns ts f (.lf d)).2)) else none
  | _ => none
section
variable {K : PySem.W.Frag} {X : Cx} {B H B0 : Hp} {H0 : HB} {σ : L2.St} {en : En} {C f : Str} {i : Nat} {e : Expr} {te : TE} {g : En → Option D} {tt : TT} {gt : En → Option Bool}
open Classical in
theorem EnOk.thawF {en' : En} (h0 : EnOk K B0 H0 B H σ en) (e : thawF i C f en = some en') : ∃ B1, Ex B1 H ∧ EnOk K B1 ⟨H, H0.rt⟩ B1 H σ en' := by
  obtain ⟨B1, hB1, h⟩ := h0.thaw
  obtain ⟨s, hi, e⟩ := obind e
  split at e
  · rename_i C' ns ts
    obtain ⟨⟨rfl, hno⟩, e⟩ := oite' e
    obtain ⟨t, ht, e⟩ := obind e
    obtain ⟨d, hd, rfl⟩ := omap e
    obtain ⟨o, ho⟩ := h.lt hi
    obtain ⟨v, A, rfl, w⟩ := h.ro i _ o hi ho
    have w0 := w
    have fr := fun q hq => Ow.free _ _ _ w q hq
    cases w with
    | ob h1 h2 h3 h4 h5 h6 h7 h8 h9 h10 =>
      rename_i Ca a dx fs A2
      obtain ⟨v, A0, lk, wl, sub, step⟩ := fld_chg h10 h6 ht
      let B2 : Hp := fun q => if q ∈ A0 then H q else B1 q
      have hB : Ex B1 B2 := fun q u z => by
        show (if q ∈ A0 then H q else B1 q) = some u
        by_cases c : q ∈ A0
        · rw [if_pos c]; exact hB1 q u z
        · rw [if_neg c]; exact z
      have hH : Ex B2 H := fun q u z => by
        have z : (if q ∈ A0 then H q else B1 q) = some u := z
        by_cases c : q ∈ A0
        · rw [if_pos c] at z; exact z
        · rw [if_neg c] at z; exact hB1 q u z
      have hN : ∀ q, q ∉ A0 → B1 q = none → B2 q = none := fun q c z => by
        show (if q ∈ A0 then H q else B1 q) = none
        rw [if_neg c]; exact z
      have hO : ∀ q ∈ A0, ∀ u, H q = some u → B2 q = some u := fun q c u z => by
        show (if q ∈ A0 then H q else B1 q) = some u
        rw [if_pos c]; exact z
      have rp : Rp K B2 v d := Ow.rp hB t v A0 d wl hO hd
      obtain ⟨A', w', e', fA⟩ := step B2 H (.lf d) [] hB (fun q hq hq0 => ⟨rfl, hN q hq0 (fr q (by simp [hq])).1⟩) (.lf rp) fun q hq => (List.not_mem_nil hq).elim
      have fA' : ∀ q ∈ A', q ∈ A2 := fun q hq => (fA q hq).elim id fun z => (List.not_mem_nil z).elim
      have cs : ∀ (j : Nat) (s : Sl), ((en.map Sl.thaw).set i (.ro (.ob C' ns (setT ns ts f (.lf d)).2)))[j]? = some s → (j = i ∧ s = .ro (.ob C' ns (setT ns ts f (.lf d)).2)) ∨ (j ≠ i ∧ (en.map Sl.thaw)[j]? = some s ∧ notRo s = true) := fun j s z => by
        by_cases c : j = i
        · subst c
          rw [List.getElem?_set_self (List.getElem?_eq_some_iff.mp hi).1] at z
          cases z
          exact .inl ⟨rfl, rfl⟩
        · rw [List.getElem?_set_ne (Ne.symm c)] at z
          refine .inr ⟨c, z, List.all_eq_true.mp hno s ?_⟩
          have : ((en.map Sl.thaw).set i .no)[j]? = some s := by rw [List.getElem?_set_ne (Ne.symm c)]; exact z
          exact List.mem_of_getElem? this
      have nomut : ∀ (j : Nat) (s : Sl) (o : Option V) (q : Addr), ((en.map Sl.thaw).set i (.ro (.ob C' ns (setT ns ts f (.lf d)).2)))[j]? = some s → Ft K B2 H s o q → False := fun j s o q z y => by
        rcases cs j s z with ⟨_, rfl⟩ | ⟨_, _, k⟩
        · exact y
        · cases s with
          | no => exact y
          | dat d => exact y
          | _ => cases k
      refine ⟨B2, hH, Ext.refl hH, by rw [List.length_set]; exact h.len, fun j s o z1 z2 => ?_, fun j k sj sk oj ok q z1 _ _ _ y _ => (nomut j sj oj q z1 y).elim, fun j s o q z1 _ y => (nomut j s o q z1 y).elim, fun j t o z1 _ => ?_, fun j t o z1 z2 => ?_⟩
      · rcases cs j s z1 with ⟨_, rfl⟩ | ⟨_, k1, k⟩
        · trivial
        · have sl := h.slot j s o k1 z2
          cases s with
          | no => trivial
          | dat d => obtain ⟨v, q1, q2⟩ := sl; exact ⟨v, q1, q2.up hB⟩
          | _ => cases k
      · rcases cs j _ z1 with ⟨_, z⟩ | ⟨_, _, k⟩
        · cases z
        · cases k
      · rcases cs j _ z1 with ⟨rfl, z⟩ | ⟨_, _, k⟩
        · cases z
          rw [ho] at z2
          cases z2
          exact ⟨_, a :: dx :: A', rfl, .ob h1 (hN a (fun z => h8 (sub a z)) h2) (hN dx (fun z => h9 (sub dx z)) h3) h4 h5 w' h7 (fun z => h8 (fA' a z)) (fun z => h9 (fA' dx z)) h10⟩
        · cases k
  · cases e
@[simp] def dScalF (i : Nat) (C f : Str) (g : En → Option D) : En → Option D := fun en => (thawF i C f en).bind fun en' => (g en').bind fun d => if d.flat = true then some d else none
theorem DE.scalF (h : DE X e te g) : DE X e te (dScalF i C f g) := ⟨h.p, fun B0 H0 B H σ en d hE e Q k => by
  obtain ⟨en', e0, e⟩ := obind e
  obtain ⟨d', e1, e⟩ := obind e
  obtain ⟨hf, rfl⟩ := oite e
  obtain ⟨B1, hB, hE1⟩ := hE.thawF e0
  refine h.c B1 ⟨H, H0.rt⟩ B1 H σ _ d' hE1 e1 _ fun v B2 H2 x r => ?_
  have := r.flat hf
  subst this
  exact k _ B H2 ⟨Ex.refl _, hE.bh.trans x.hh, x.hh, fun _ _ => rfl⟩ (.of_flat hf)⟩
end
end DD

namespace DD
open PySem PySem.Spec PyProof.Rows L2 Evl SUP
section
variable {K : PySem.W.Frag}
end
section
variable {X : Cx} {k : Nat} {Ca g : Addr} {C p1 : Str} {fd : FuncData} {F : Tr → Option D} {tg o : Expr} {ta : TE} {i : Nat}
end
end DD

namespace DD
open PySem PySem.Spec PyProof.Rows L2 Evl
section
variable {K : PySem.W.Frag} {X : Cx} {pos : Pos} {a b : Expr} {ta tb : TE} {fa fb : En → Option D}
end
end DD

namespace DD
open PySem PySem.Spec PyProof.Rows L2 Evl SUP
section
variable {K : PySem.W.Frag} {X : Cx} {pos apos : Pos} {e o : Expr} {es : List Expr} {tr : TA} {fr : En → Option (List D)} {B H B0 : Hp} {H0 : HB} {σ : L2.St} {en : En} {i : Nat} {C m : Str} {Ca g : Addr} {fd : FuncData} {ps : List Str} {k : Nat} {F : Tr → List D → Option D} {FM : Tr → List D → Option (D × Tr)}
def dMethR (i : Nat) (C m : Str) (F : Tr → List D → Option D) (fr : En → Option (List D)) : En → Option D := fun en => (fr en).bind fun ds => (en[i]?).bind fun s => (slA s).bind fun t => if obM C m t = true then F t ds else none
theorem pe_methX0 {pl : Sem Bool} (c : Cls X.K Ca) (hm : Meth X.K Ca m g) (G : FnOk X.prog X.w X.K X.mg X.base (L2.CX X.prog X.w) k g fd ps (spPX X.K 0 FM)) (hr : Room k X.A) (hb : Binds X.K fd ps []) (hx : PE X o (tVar i))
    (ht : eval (.Call (.Attribute o m apos) [] [] pos) X.env = (do
      let ov ← eval o X.env
      standAt apos.atName
      let (f, first) ← holding [ov] (getMethod ov m pl)
      callWith pos f first (backTo pos (starEach [] X.env)) (backToKw pos (keywordEach [] X.env))) := by rfl) :
    PE X (.Call (.Attribute o m apos) [] [] pos) (tMeth Ca m (spPX X.K 0 FM) [] E0 (tVar i) tNil) := pe_meth0 (pl := pl) hx c hm G hr hb .nil passL ht
end
section
variable {K : PySem.W.Frag} {X : Cx} {pos : Pos} {a : Expr} {ta : TE} {fa : En → Option D}
def typD : D → Option String
  | .non => some "NoneType"
  | .bl _ => some "bool"
  | .int _ => some "int"
  | .str _ => some "str"
  | .lst _ => some "list"
  | .tup _ => some "tuple"
  | _ => none
theorem typ_of {H : Hp} {v : V} {d : D} {T : String} (h : typD d = some T) (r : Rp K H v d) : TyX K H v (.type T) := by
  cases r with
  | non => cases h; exact .base .non
  | bl b => cases h; exact .base (.bl b)
  | int i => cases h; exact .base (.int i)
  | str x => cases h; exact .base (.str x)
  | lst s q =>
    cases h
    rcases s with (s | ⟨o, s⟩) | ⟨o, its, n, e, c, _⟩
    · exact .base (.lst s)
    · exact .base (.frz s)
    · exact .kList e c
  | tup s q => cases h; exact .base (.tup s)
  | _ => cases h
def dIsO (T : String) (fa : En → Option D) : En → Option D := fun en => (fa en).bind fun d => if typD d = some T then some (.bl true) else none
theorem de_isO {T : String} {x : Str} {p p2 : Pos} (hg : Gl X "isinstance") (hm : X.mg "isinstance" = none) (hb : PE X (.Name x p2) (tC (.ty T))) (ha : DE X a ta fa)
    (hs : starEach [a, .Name x p2] X.env = (false, eval a X.env) :: starEach [.Name x p2] X.env := by rfl) (hs2 : starEach [.Name x p2] X.env = (false, eval (.Name x p2) X.env) :: starEach [] X.env := by rfl) (hpl : (backTo pos (starEach [.Name x p2] X.env)).any (·.1) = false := by rfl) :
    DE X (.Call (.Name "isinstance" p) [a, .Name x p2] [] pos) (tCB (rIsi X.K) (tCons ta (tCons (tC (.ty T)) tNil))) (dIsO T fa) :=
  ⟨pe_callB call_isi hg hm (by decide +kernel) (pa_cons ha.p (pa_cons hb pa_nil hs2) hs) (by decide) (by decide) hs hpl, fun B0 H0 B H σ en d hE e Q k => by
    obtain ⟨x, e1, e⟩ := obind e
    obtain ⟨ht, rfl⟩ := oite e
    refine ha.c B0 H0 B H σ en _ hE e1 _ fun v B1 H1 x r => ?_
    have e2 : PySem.W.kitOne X.K (.type T) (.type T) = some true := if_pos (beq_self_eq_true _)
    exact ⟨v, .ty T, .type T, .type T, true, rfl, .ty T, (typ_of ht (Rp.ex x.bh _ _ r)), e2, k _ B1 H1 x (.bl true)⟩⟩
end
end DD
namespace DD
open PySem PySem.Spec PyProof.Rows L2 Evl SUP
section
variable {X : Cx} {pos pos1 apos : Pos} {e o : Expr} {es : List Expr} {tr : TA} {fr : En → Option (List D)} {i : Nat} {C m : Str} {Ca g : Addr} {fd : FuncData} {ps : List Str} {k : Nat} {FM : Tr → List D → Option (D × Tr)}
theorem ds_dropMA {pl : Sem Bool} (hC : PySem.W.nsIn X.K mainGlobals C = some (some (.ref Ca))) (c : Cls X.K Ca) (hm : Meth X.K Ca m g) (G : FnOk X.prog X.w X.K X.mg X.base (L2.CX X.prog X.w) k g fd ps (spPX X.K 0 FM)) (hr : Room k X.A) (hb : Binds X.K fd ps []) (hx : PE X o (tVar i)) (ha : DA X (e :: es) tr fr)
    (hst : starEach (e :: es) X.env = (false, eval e X.env) :: starEach es X.env := by rfl) (hpl : (backTo pos (starEach es X.env)).any (·.1) = false := by rfl)
    (ht : eval (.Call (.Attribute o m apos) (e :: es) [] pos) X.env = (do
      let ov ← eval o X.env
      standAt apos.atName
      let (f, first) ← holding [ov] (getMethod ov m pl)
      callWith pos f first (backTo pos (starEach (e :: es) X.env)) (backToKw pos (keywordEach [] X.env))) := by rfl)
    (hs : swapsWith (.Call (.Attribute o m apos) (e :: es) [] pos) none pos1.line X.env = pure false := by rfl) :
    DS X (.Expr (.Call (.Attribute o m apos) (e :: es) [] pos) pos1) (tDrop (tMeth Ca m (spPX X.K 0 FM) [] E0 (tVar i) tr)) (sDropM (callMV i C m FM fr)) := ds_dropM hC ha.c (pe_methX (pl := pl) c hm G hr hb hx ha.p hst hpl ht) hs
end
end DD

namespace DD
open PySem PySem.Spec PyProof.Rows L2 Evl SUP
def CEM (K : PySem.W.Frag) (te : TE) (f : En → Option (D × En)) : Prop := ∀ B0 H0 B H σ en q, EnOk K B0 H0 B H σ en → f en = some q → ∀ Q : VK, (∀ u B' H', Ex B B' → EnOk K B0 H0 B' H' σ q.2 → Rp K B' u q.1 → Q u H') → te σ H Q
def CTM (K : PySem.W.Frag) (tt : TT) (f : En → Option (Bool × En)) : Prop := ∀ B0 H0 B H σ en q, EnOk K B0 H0 B H σ en → f en = some q → ∀ Q : Bool → Hp → Prop, (∀ B' H', Ex B B' → EnOk K B0 H0 B' H' σ q.2 → Q q.1 H') → tt σ H Q
structure DEv (X : Cx) (e : Expr) (te : TE) (f : En → Option (D × En)) : Prop where
  p : PE X e te
  c : CEM X.K te f
structure DTv (X : Cx) (e : Expr) (tt : TT) (f : En → Option (Bool × En)) : Prop where
  p : PT X e tt
  c : CTM X.K tt f
structure DWv (X : Cx) (e : Expr) (tt : TT) (f : En → Option (Bool × En)) : Prop where
  p : PW X e tt
  c : CTM X.K tt f
def tvOf (ft : En → Option Bool) : En → Option (Bool × En) := fun en => (ft en).map fun b => (b, en)
def tvCmp (g : D → D → Option D) (fa : En → Option (D × En)) (fb : En → Option D) : En → Option (Bool × En) := fun en => (fa en).bind fun q => (fb q.2).bind fun y => (g q.1 y).bind fun
  | .bl b => some (b, q.2)
  | _ => none
def sIfV (ft : En → Option (Bool × En)) (g h : En → Option Out) : En → Option Out := fun en => (ft en).bind fun q => if q.1 = true then g q.2 else h q.2
section
variable {K : PySem.W.Frag} {X : Cx} {pos apos : Pos} {e o a b : Expr} {es rest : List Expr} {tr : TA} {fr : En → Option (List D)} {i : Nat} {C m : Str} {Ca g : Addr} {fd : FuncData} {ps : List Str} {k : Nat} {F : Tr → List D → Option D} {FM : Tr → List D → Option (D × Tr)}
variable {ta tb : TE} {tt tu : TT} {fv : En → Option (D × En)} {fb : En → Option D} {fs : En → Option Bool} {ft fu : En → Option (Bool × En)}
theorem dv_meth {pl : Sem Bool} (hC : PySem.W.nsIn X.K mainGlobals C = some (some (.ref Ca))) (c : Cls X.K Ca) (hm : Meth X.K Ca m g) (G : FnOk X.prog X.w X.K X.mg X.base (L2.CX X.prog X.w) k g fd ps (spPX X.K 0 FM)) (hr : Room k X.A) (hb : Binds X.K fd ps []) (hx : PE X o (tVar i)) (ha : DA X (e :: es) tr fr)
    (hst : starEach (e :: es) X.env = (false, eval e X.env) :: starEach es X.env := by rfl) (hpl : (backTo pos (starEach es X.env)).any (·.1) = false := by rfl)
    (ht : eval (.Call (.Attribute o m apos) (e :: es) [] pos) X.env = (do
      let ov ← eval o X.env
      standAt apos.atName
      let (f, first) ← holding [ov] (getMethod ov m pl)
      callWith pos f first (backTo pos (starEach (e :: es) X.env)) (backToKw pos (keywordEach [] X.env))) := by rfl) :
    DEv X (.Call (.Attribute o m apos) (e :: es) [] pos) (tMeth Ca m (spPX X.K 0 FM) [] E0 (tVar i) tr) (callMV i C m FM fr) :=
  ⟨pe_methX (pl := pl) c hm G hr hb hx ha.p hst hpl ht, fun B0 H0 B H σ en q hE h Q kq => ce_meth hC ha.c hE h kq⟩
theorem dv_meth0 {pl : Sem Bool} (hC : PySem.W.nsIn X.K mainGlobals C = some (some (.ref Ca))) (c : Cls X.K Ca) (hm : Meth X.K Ca m g) (G : FnOk X.prog X.w X.K X.mg X.base (L2.CX X.prog X.w) k g fd ps (spPX X.K 0 FM)) (hr : Room k X.A) (hb : Binds X.K fd ps []) (hx : PE X o (tVar i))
    (ht : eval (.Call (.Attribute o m apos) [] [] pos) X.env = (do
      let ov ← eval o X.env
      standAt apos.atName
      let (f, first) ← holding [ov] (getMethod ov m pl)
      callWith pos f first (backTo pos (starEach [] X.env)) (backToKw pos (keywordEach [] X.env))) := by rfl) :
    DEv X (.Call (.Attribute o m apos) [] [] pos) (tMeth Ca m (spPX X.K 0 FM) [] E0 (tVar i) tNil) (callMV i C m FM aNil) :=
  ⟨pe_methX0 (pl := pl) c hm G hr hb hx ht, fun B0 H0 B H σ en q hE h Q kq => ce_meth hC (da_nil (X := X)).c hE h kq⟩
theorem dv_cmpR {op : CmpOp} {r : R2} {gg : D → D → Option D} (ho : OpR X (compareOp op) r) (hr : OpD X.K r gg) (ha : DEv X a ta fv) (hb : DE X b tb fb) (hm : behindInMarks op b = false) : DTv X (.Compare a [op] [b] pos) (tTest (tOp r ta tb)) (tvCmp gg fv fb) :=
  ⟨pt_cmpR ho ha.p hb.p hm, fun B0 H0 B H σ en q hE h Q kq => by
    obtain ⟨p, e1, h⟩ := obind h
    obtain ⟨y, e2, h⟩ := obind h
    obtain ⟨d, e3, h⟩ := obind h
    cases d with
    | bl c =>
      cases h
      refine ha.c B0 H0 B H σ en p hE e1 _ fun u B1 H1 x1 hE1 r1 => ?_
      refine hb.c B0 H0 B1 H1 σ p.2 y hE1 e2 _ fun v B2 H2 x2 r2 => ?_
      refine hr B2 H2 u v p.1 y (.bl c) x2.bh (Rp.ex x2.bb _ _ r1) r2 e3 _ fun w B3 H3 x3 r3 => ?_
      cases r3
      exact ⟨c, rfl, kq B3 H3 (x1.trans (x2.bb.trans x3.bb)) ((hE1.up x2).up x3)⟩
    | _ => cases h⟩
theorem dv_ne {n : Nat} (hr : Room n X.A) (ha : DEv X a ta fv) (hb : DE X b tb fb) : DTv X (.Compare a [.NotEq] [b] pos) (tTest (tOp (rNeD X.K) ta tb)) (tvCmp gNe fv fb) := dv_cmpR (op_neD hr.units) od_ne ha hb (nomark _)
theorem DT.v (h : DT X e tt fs) : DTv X e tt (tvOf fs) := ⟨h.p, fun B0 H0 B H σ en q hE w Q kq => by
  obtain ⟨c, e1, rfl⟩ := omap w
  exact h.c B0 H0 B H σ en c hE e1 _ fun B1 H1 x => kq B1 H1 x.bb (hE.up x)⟩
theorem DWv.dt (h : DWv X e tt ft) : DTv X e tt ft := ⟨h.p.pt, h.c⟩
theorem ds_ifV {sa sb : List Stmt} {t u : TS} {gg hh : En → Option Out} (hc : DTv X e tt ft) (ha : DSs X sa t gg) (hb : DSs X sb u hh) : DS X (.If e sa sb pos) (tIfS tt t u) (sIfV ft gg hh) := ⟨ps_if hc.p ha.p hb.p, fun B0 H0 B H σ en o hE w Dn k => by
  obtain ⟨q, e1, w⟩ := obind w
  refine hc.c B0 H0 B H σ en q hE e1 _ fun B1 H1 x1 hE1 => ?_
  obtain ⟨c, en1⟩ := q
  cases c with
  | true =>
    rw [if_pos rfl] at w ⊢
    exact ha.c B0 H0 B1 H1 σ en1 o hE1 w Dn (k.up x1)
  | false =>
    rw [if_neg Bool.false_ne_true] at w ⊢
    exact hb.c B0 H0 B1 H1 σ en1 o hE1 w Dn (k.up x1)⟩
end
end DD

namespace DD
open PySem PySem.Spec PyProof.Rows L2 Evl SUP
def gFldT (K : PySem.W.Frag) (ta : TE) (f : Str) : TG := fun v σ H Q => ta σ H fun x H1 => ∃ a C dx fs, x = .ref a ∧ H1 a = some (.ins C dx fs) ∧ Cls K C ∧ NoAttr K C f ∧ fs.length < 1000 ∧ Q σ (upd H1 a (.ins C dx (putF f v fs)))
section
variable {X : Cx} {o : Expr} {f : Str} {pos : Pos} {ta : TE}
theorem pg_attr (ha : PE X o ta) : PG X (.Attribute o f pos) (gFldT X.K ta f) := by
  refine ⟨fun pins s σ H v u Q I r h => ?_⟩
  refine PySem.W.kas_attr (thn (ha.run pins s σ H _ I h) fun ov s1 ⟨x, H1, I1, rx, a, C, dx, fs, ex, ea, c, n, l, q⟩ => ?_)
  subst ex
  obtain rfl : ov = Value.ref a := rx
  exact setattr_ok I1 ea c n l r fun s3 I3 => ⟨σ, _, I3, q⟩
end
section
variable {K : PySem.W.Frag} {B H B0 : Hp} {H0 : HB} {σ : L2.St} {en : En} {C f : Str} {Ca : Addr} {i : Nat}
theorem slT_set {s : Sl} {u : Tr} (t : Tr) (h : slT s = some u) : slT (setS s t) = some t := by
  cases s with
  | tre _ => rfl
  | par _ => rfl
  | _ => cases h
theorem setS_set {s : Sl} {u : Tr} (t t' : Tr) (h : slT s = some u) : setS (setS s t) t' = setS s t' := by
  cases s with
  | tre _ => rfl
  | par _ => rfl
  | _ => cases h
theorem setF_leaf {s : Sl} {ns : List Str} {ts : List Tr} {v : V} {d : D} (hC : PySem.W.nsIn K mainGlobals C = some (some (.ref Ca))) (hE : EnOk K B0 H0 B H σ en) (hi : en[i]? = some s) (hu : slT s = some (.ob C ns ts)) (hl : ns.length < 1000) (r1 : Rp K B v d) :
    ∃ a dx fs, σ[i]? = some (some (.ref a)) ∧ H a = some (.ins Ca dx fs) ∧ fs.length < 1000 ∧ EnOk K B0 H0 B (upd H a (.ins Ca dx (putF f v fs))) σ (en.set i (setS s (.ob C (setT ns ts f (.lf d)).1 (setT ns ts f (.lf d)).2))) := by
  obtain ⟨r, A, hr, w0, wf, wg⟩ := hE.own_tree hi hu
  clear wf wg
  have fr := fun q hq => Ow.free _ _ _ w0 q hq
  have w0' := w0
  cases w0 with
  | ob h1 h2 h3 h4 h5 h6 h7 h8 h9 h10 =>
    rename_i a dx fs A2
    rw [hC] at h1
    cases h1
    obtain ⟨A', e1', e2', e3'⟩ := fld_set (f := f) (t := .lf d) (A0 := []) (.lf r1) h10 h6 fun q hq z => (List.not_mem_nil hq).elim
    have e3'' : ∀ q ∈ A', q ∈ A2 := fun q hq => (e3' q hq).elim id fun z => (List.not_mem_nil z).elim
    have nA' : ∀ q ∈ A', q ≠ a ∧ q ≠ dx := fun q hq => ⟨fun y => h8 (y ▸ e3'' q hq), fun y => h9 (y ▸ e3'' q hq)⟩
    refine ⟨a, dx, fs, hr, h4, ?_, ?_⟩
    · have := congrArg List.length h10
      rw [List.length_map] at this
      omega
    · have e2'' : OwAll K B (upd H a (.ins Ca dx (putF f v fs))) (setT ns ts f (.lf d)).2 ((putF f v fs).map (·.2)) A' := OwAll.mono (Ex.refl _) _ _ _ e2' fun q hq => ⟨upd_ne (nA' q hq).1, (OwAll.free _ _ _ e2' q hq).1⟩
      refine hE.aft hi hu hr w0' (t' := .ob _ (setT ns ts f (.lf d)).1 (setT ns ts f (.lf d)).2) (A' := a :: dx :: A') ⟨Ex.refl _, Ex.mut hE.bh h2, fun q hq hn => ?_, fun q hq m => rfl⟩
        (.ob hC h2 h3 upd_same ((upd_ne h7.symm).trans h5) e2'' h7 (fun z => (nA' a z).1 rfl) (fun z => (nA' dx z).2 rfl) e1') fun q hq => .inl ?_
      · rw [upd_ne fun z => hq (by simp [z])]
      · rcases List.mem_cons.mp hq with z | hq
        · simp [z]
        rcases List.mem_cons.mp hq with z | hq
        · simp [z]
        · simp [e3'' q hq]
theorem popF_core {s : Sl} {ns : List Str} {ts us : List Tr} {ds : List D} {d : D} (hC : PySem.W.nsIn K mainGlobals C = some (some (.ref Ca))) (hE : EnOk K B0 H0 B H σ en) (hi : en[i]? = some s) (hu : slT s = some (.ob C ns ts)) (ht : fieldT ns ts f = some (.ls us)) (hus : us = ds.map Tr.lf) (hd : ds[ds.length - 1]? = some d) :
    ∃ a dx fs l vs y, σ[i]? = some (some (.ref a)) ∧ H a = some (.ins Ca dx fs) ∧ fs.lookup f = some (.ref l) ∧ H l = some (.lst vs) ∧ vs[vs.length - 1]? = some y ∧ Rp K B y d ∧
      EnOk K B0 H0 B (upd H l (.lst vs.dropLast)) σ (en.set i (setS s (.ob C ns (setT ns ts f (.ls (ds.dropLast.map Tr.lf))).2))) := by
  obtain ⟨r0, A, hr, w0, wf, wg⟩ := hE.own_tree hi hu
  clear wf wg
  have fr := fun q hq => Ow.free _ _ _ w0 q hq
  have w0' := w0
  cases w0 with
  | ob h1 h2 h3 h4 h5 h6 h7 h8 h9 h10 =>
    rename_i a dx fs A2
    rw [hC] at h1
    cases h1
    obtain ⟨v, A0, lk, wl, sub, step⟩ := fld_chg h10 h6 ht
    cases wl with
    | ls b1 b2 b3 b4 =>
      rename_i l vs A3
      subst hus
      obtain ⟨rp, hA3⟩ := owall_lf' b3
      subst hA3
      have la : l ∈ A2 := sub l List.mem_cons_self
      have nla : l ≠ a := fun z => h8 (z ▸ la)
      have nld : l ≠ dx := fun z => h9 (z ▸ la)
      obtain ⟨y, hy, ry⟩ := rp.get _ hd
      rw [← rp.len] at hy
      refine ⟨a, dx, fs, l, vs, y, hr, h4, lk, b2, hy, ry, ?_⟩
      have wnew : Ow K B (upd H l (.lst vs.dropLast)) (.ls (ds.dropLast.map Tr.lf)) (.ref l) [l] := .ls b1 upd_same (owall_lf (RpAll.dl rp)) List.not_mem_nil
      obtain ⟨A', w', ens, fA⟩ := step B (upd H l (.lst vs.dropLast)) (.ls (ds.dropLast.map Tr.lf)) [l] (Ex.refl _) (fun q hq hq0 => ⟨upd_ne fun z => hq0 (by rw [z]; exact List.mem_cons_self), (fr q (by simp [hq])).1⟩) wnew fun q hq => .inl hq
      have fA' : ∀ q ∈ A', q ∈ A2 := fun q hq => (fA q hq).elim id fun z => by rw [List.mem_singleton.mp z]; exact la
      refine hE.aft hi hu hr w0' (t' := .ob _ ns (setT ns ts f (.ls (ds.dropLast.map Tr.lf))).2) (A' := a :: dx :: A') ⟨Ex.refl _, Ex.mut hE.bh b1, fun q hq hn => ?_, fun q hq m => rfl⟩ (.ob hC h2 h3 ((upd_ne nla.symm).trans h4) ((upd_ne nld.symm).trans h5) w' h7 (fun z => h8 (fA' a z)) (fun z => h9 (fA' dx z)) h10) fun q hq => .inl ?_
      · rw [upd_ne fun z => hq (by rw [z]; simp [la])]
      · rcases List.mem_cons.mp hq with z | hq
        · simp [z]
        rcases List.mem_cons.mp hq with z | hq
        · simp [z]
        · simp [fA' q hq]
end
section
variable {X : Cx} {C f f2 y : Str} {Ca : Addr} {i j k : Nat} {o o2 : Expr} {pos pos' p1 p2 pt apos cpos py : Pos}
end
section
variable {X : Cx} {C f : Str} {i : Nat} {e : Expr} {tt : TT} {ft : En → Option Bool}
def tScalF (i : Nat) (C f : Str) (ft : En → Option Bool) : En → Option Bool := fun en => (thawF i C f en).bind ft
theorem DT.scalF (h : DT X e tt ft) : DT X e tt (tScalF i C f ft) := ⟨h.p, fun B0 H0 B H σ en d hE w Q k => by
  obtain ⟨en', e0, w⟩ := obind w
  obtain ⟨B1, hB, hE1⟩ := hE.thawF e0
  exact h.c B1 ⟨H, H0.rt⟩ B1 H σ _ d hE1 w _ fun B2 H2 x => k B H2 ⟨Ex.refl _, hE.bh.trans x.hh, x.hh, fun _ _ => rfl⟩⟩
end
end DD

namespace DD
open PySem PySem.Spec PyProof.Rows L2 Evl SUP
section
variable {X : Cx} {C0 : CXT} {k : Nat} {f Ca : Addr} {fd : FuncData} {ps : List Str} {sp : Sp} {E : L2.St → XK} {m : Str} {pos apos : Pos} {o : Expr} {ta : TE}
end
section
variable {X : Cx} {k : Nat} {g Ca : Addr} {C : Str} {fdd : FuncData} {ps : List Str} {m : Str} {pos apos : Pos} {o a b : Expr} {i : Nat} {FM : Tr → List D → Option (D × Tr)} {F : Tr → List D → Option D} {tb : TE} {fb : En → Option D}
end
section
variable {X : Cx} {pos : Pos} {e : Expr} {rS : Addr → Value → Option Addr → TS} {gS : List D → En → Option Out}
end
end DD
namespace DD
open PySem PySem.Spec PyProof.Rows L2 Evl SUP
section
variable {K : PySem.W.Frag} {X : Cx} {pos : Pos} {C f : Str} {Ca pa ga : Addr} {i : Nat}
end
end DD

namespace DD
open PySem PySem.Spec PyProof.Rows L2 Evl
section
variable {K : PySem.W.Frag} {X : Cx} {pos : Pos} {a : Expr} {ta : TE} {fa : En → Option D}
end
end DD

namespace DD
open PySem PySem.Spec PyProof.Rows L2 Evl SUP
section
variable {K : PySem.W.Frag} {X : Cx} {pos apos : Pos} {e o : Expr} {es : List Expr} {tr : TA} {fr : En → Option (List D)} {B H B0 : Hp} {H0 : HB} {σ : L2.St} {en : En} {i j : Nat} {C m : Str} {Ca g : Addr} {fd : FuncData} {ps : List Str} {k : Nat}
structure IsO (K : PySem.W.Frag) (C : Addr) : Prop where
  cl : Cls K C
  ha : PySem.W.findIn K (.ref C) "__class__" = some (some (.builtin "object.__class__"))
  hn : PySem.W.specialIn K (.builtin "object.__class__") "__get__" = some (some (.builtin "getset_descriptor.__get__"))
  htk : PySem.W.takesIn K (.builtin "object.__class__") = some true
  hm : PySem.W.mroIn K C (.type "object") = some true
theorem DT.cmp {ee : Expr} {te : TE} {f : En → Option D} (p : PT X ee (tTest te)) (h : CE X.K te f) : DT X ee (tTest te) (tBl f) := ⟨p, fun B0 H0 B H σ en b hE w Q kq => by
  obtain ⟨d, e1, w⟩ := obind w
  cases d with
  | bl c =>
    cases w
    refine h B0 H0 B H σ en _ hE e1 _ fun u B1 H1 x r => ?_
    cases r
    exact ⟨_, rfl, kq B1 H1 x⟩
  | _ => cases w⟩
end
end DD

namespace DD
open PySem PySem.Spec PyProof.Rows L2 Evl SUP

section
variable {prog : Program} {w : World} {A : Around} {E : Value → Shared → Prop} {s : Shared}
end
section
variable {K : PySem.W.Frag} {X : Cx} {pos psn : Pos} {e1 e2 : Expr} {t1 t2 : TG} {g1 g2 : D → En → Option En} {is js : List Nat}
end
end DD
namespace DD
open PySem PySem.Spec PyProof.Rows L2 Evl SUP
section
variable {K : PySem.W.Frag} {X : Cx} {pos psn : Pos} {a b e : Expr} {ta tb te : TE} {fa fb fe : En → Option D}
end
end DD
namespace DD
open PySem PySem.Spec PyProof.Rows L2 Evl SUP
section
variable {K : PySem.W.Frag} {X : Cx} {pos : Pos} {a b : Expr} {ta tb : TE} {fa fb : En → Option D}
end
end DD

namespace DD
open PySem PySem.Spec PyProof.Rows L2 Evl SUP
section
variable {K : PySem.W.Frag} {X : Cx} {pos tpos : Pos} {C f : Str} {Ca : Addr} {i : Nat} {o e : Expr} {te : TE} {fe : En → Option D}
def sAugF (i : Nat) (C f : Str) (fe : En → Option D) : En → Option Out := fun en => (dFld i C f en).bind fun x => (fe en).bind fun y => match x, y with
  | .int n, .int m => sSetF i C f (fun _ => some (.lf (.int (n + m)))) en
  | _, _ => none
theorem ds_augF (hC : PySem.W.nsIn X.K mainGlobals C = some (some (.ref Ca))) (c : Cls X.K Ca) (n : NoAttr X.K Ca f) (hx : PE X o (tVar i)) (he : DE X e te fe) :
    DS X (.AugAssign (.Attribute o f tpos) .Add e pos) (sFldAug X.K (tVar i) te rAdd f) (sAugF i C f fe) := ⟨ps_fldaug hx he.p in_add, fun B0 H0 B H σ en out hE q Dn k => by
  obtain ⟨d1, e1, q⟩ := obind q
  obtain ⟨d2, e2, q⟩ := obind q
  split at q
  · rename_i z1 z2 _
    obtain ⟨s, hi, e1⟩ := obind e1
    obtain ⟨⟨ns, ts⟩, hs, e1⟩ := obind e1
    obtain ⟨t, ht, e1⟩ := obind e1
    obtain ⟨a, dx, fs, A, hσ, ha, hns, w, _⟩ := ob_at hE hi hs hC
    obtain ⟨v, A', l, w', _⟩ := fld_some hns w ht
    cases t with
    | lf d' =>
      cases e1
      cases w' with
      | lf r =>
        cases r
        refine ⟨.ref a, hσ, a, Ca, dx, fs, _, rfl, ha, c, n, l, ?_⟩
        refine he.c B0 H0 B H σ en _ hE e2 _ fun y B1 H1 x1 r1 => ?_
        cases r1
        obtain ⟨t2, e3, q⟩ := obind q
        cases e3
        obtain ⟨s2, hi2, q⟩ := obind q
        obtain ⟨u, hu, q⟩ := obind q
        split at q
        · rename_i C' ns2 ts2
          obtain ⟨⟨rfl, hl⟩, rfl⟩ := oite q
          obtain ⟨a2, dx2, fs2, h1, h2, h3, h4⟩ := setF_leaf (f := f) hC (hE.up x1) hi2 hu hl (Rp.int (K := X.K) (H := B1) (z1 + z2))
          rw [hσ] at h1
          cases h1
          exact ⟨z1, z2, rfl, rfl, dx2, fs2, h2, h3, k _ _ _ x1.bb h4⟩
        · cases q
    | _ => cases e1
  · cases q⟩
end
end DD
namespace DD
open PySem PySem.Spec PyProof.Rows L2 Evl SUP
section
variable {K : PySem.W.Frag} {X : Cx} {pos apos : Pos} {e o : Expr} {es : List Expr} {tr : TA} {fr : En → Option (List D)} {i : Nat} {C m : Str} {Ca g : Addr} {fd : FuncData} {ps : List Str} {k : Nat} {F : Tr → List D → Option D}
theorem dex_methR {pl : Sem Bool} {W : XK} (tk : Takes X (fun cls d _ H => W cls d H)) (hC : PySem.W.nsIn X.K mainGlobals C = some (some (.ref Ca))) (c : Cls X.K Ca) (hm : Meth X.K Ca m g) (G : FnOk X.prog X.w X.K X.mg X.base (L2.CX X.prog X.w) k g fd ps (spRX X.K F)) (hr : Room k X.A) (hb : Binds X.K fd ps []) (hx : PE X o (tVar i)) (ha : DA X (e :: es) tr fr)
    (hst : starEach (e :: es) X.env = (false, eval e X.env) :: starEach es X.env := by rfl) (hpl : (backTo pos (starEach es X.env)).any (·.1) = false := by rfl)
    (ht : eval (.Call (.Attribute o m apos) (e :: es) [] pos) X.env = (do
      let ov ← eval o X.env
      standAt apos.atName
      let (f, first) ← holding [ov] (getMethod ov m pl)
      callWith pos f first (backTo pos (starEach (e :: es) X.env)) (backToKw pos (keywordEach [] X.env))) := by rfl) :
    DEX X W (.Call (.Attribute o m apos) (e :: es) [] pos) (tMethS Ca m (spRX X.K F) (fun _ => W) (tVar i) tr) (dMethR i C m F fr) :=
  ⟨pe_methSg (pl := pl) hx c hm G hr hb (fun σ => passAt tk σ) ha.p hst hpl ht, fun B0 H0 B H σ en d hE q Q kk kx => by
    obtain ⟨ds, e1, q⟩ := obind q
    obtain ⟨s, e2, q⟩ := obind q
    obtain ⟨t, e3, q⟩ := obind q
    obtain ⟨e0, e4⟩ := oite' q
    obtain ⟨v, A, hv, w⟩ := tree_at hE e2 e3
    obtain ⟨a, dx, fs, rfl, ha', l⟩ := ob_meth e0 hC w
    refine ⟨.ref a, hv, a, dx, fs, rfl, ha', l, ha.c B0 H0 B H σ en ds hE e1 _ fun vs B1 H1 x r => ?_⟩
    obtain ⟨v1, A1, hv1, w1⟩ := sub_keep hE x e2 e3
    rw [hv] at hv1
    cases hv1
    exact ⟨B1, ds, t, .ref a, vs, A1, d, x.bh, rfl, r, w1, e4, fun u B2 H2 z ru => kk u B2 H2 (x.trans z) ru, kx.ext x⟩⟩
end
end DD
namespace DD
open PySem PySem.Spec PyProof.Rows L2 Evl SUP
section
variable {X : Cx} {e : Expr} {te : TE} {f : En → Option D} {W : XK}
theorem dsx_dropK {pos' : Pos} (he : DEX X W e te f) (hs : swapsWith e none pos'.line X.env = pure false := by rfl) : DSX X W (.Expr e pos') (tDrop te) (sXK f fun _ en => some (.nx en)) := ⟨ps_expr he.p hs, fun B0 H0 B H σ en o hE q Dn k kx => by
  obtain ⟨d, e1, q⟩ := obind q
  split at q
  · rename_i hz
    cases q
    refine he.c B0 H0 B H σ en d hE e1 _ (fun v B1 H1 x r => ?_) (xw_rm hE kx)
    rw [rp_value r] at hz
    cases hz
  · rename_i h
    cases q
    refine he.c B0 H0 B H σ en d hE e1 _ (fun v B1 H1 x r => k σ B1 H1 x.bb (hE.up x)) fun c ns fs z => ?_
    rw [h] at z
    cases z⟩
end
end DD

namespace DD
open PySem PySem.Spec PyProof.Rows L2 Evl SUP
def ansD : Tr → D
  | .lf d => d
  | _ => .non
def runPD (g : En → Option Out) (n k j : Nat) (t : Tr) (ds : List D) : Option (D × Tr) := if ds.length + 1 = k ∧ j ≤ ds.length then (g (entryP n j t ds)).bind fun
  | .rm t2 en => match en[j]? with
    | some (.par t') => some (ansD t2, t')
    | _ => none
  | _ => none else none
def spPD (K : PySem.W.Frag) (j : Nat) (F : Tr → List D → Option (D × Tr)) : Sp := fun vs H Q E => ∃ B ds t v A d t', Ex B H ∧ vs[j]? = some v ∧ RpAll K B (vs.eraseIdx j) ds ∧ Ow K B H t v A ∧ F t ds = some (d, t') ∧
  (∀ u B' H' A', Aft K B H A B' H' → Ow K B' H' t' v A' → (∀ q ∈ A', q ∈ A ∨ H q = none) → Q u H') ∧
  ∀ c ns fs, excOf d = some (c, ns, fs) → ∀ C, PySem.W.nsIn K mainGlobals c = some (some (.ref C)) → ∀ B' H' A' xs dA, Aft K B H A B' H' → Ow K B' H' t' v A' → (∀ q ∈ A', q ∈ A ∨ H q = none) → H' dA = some (.xd ((ns.zip xs).reverse)) → RpAll K B' xs fs → E (.ref C) (some dA) H'
section
variable {K : PySem.W.Frag} {B H : Hp}
theorem fn_okPD {P : Program} {w : World} {mg : Str → Option Value} {base : Heap} {x qual : Str} {st : Stmt} {f : Addr} {fd : FuncData} {N ps : List Str} {k j : Nat} {g : En → Option Out} (F : Fun K x qual st f fd) (S : FnScope N ps (defScope st)) (hps : ps.length ≤ N.length)
    (hbody : ∀ (cdv : Value) (A : Around) (outer : List Env) (s : Shared) (H : Hp) (E : XK), Room k (A.deeper (envOfC qual (defScope st) s.heap.objs.size f cdv)) →
      ∃ t, DSXs (cxOf (L2.CX P w) P w K mg base N qual (defScope st) f cdv A outer s H E) E (defBody st) t g) : FnOk P w K mg base (L2.CX P w) (k + 1) f fd ps (spPD K j (runPD g N.length ps.length j)) := by
  refine F.okX S (fun vs H Q E h => ?_) (fun cdv A outer s H vs Q E hr h => ?_)
  · obtain ⟨B, ds, t, v, A, d, t', _, hv, r, _, e, _⟩ := h
    unfold runPD at e
    by_cases hl : ds.length + 1 = ps.length ∧ j ≤ ds.length
    · have := erase_len hv
      have := r.len
      omega
    · rw [if_neg hl] at e; cases e
  · obtain ⟨B, ds, tr, v, A1, d, tr', hB, hv, r, w1, e, kq, kx⟩ := h
    obtain ⟨t, hd⟩ := hbody cdv A outer s H E hr
    refine ⟨t, hd.p, ?_⟩
    have el := erase_len hv
    have rl := r.len
    unfold runPD at e
    by_cases hl : ds.length + 1 = ps.length ∧ j ≤ ds.length
    · rw [if_pos hl] at e
      obtain ⟨o, e1, e⟩ := obind e
      have fin : ∀ (t2 : Tr) (d : D) (t' : Tr) (σ' : L2.St) (en' : En) (B' H' : Hp), EnOk K B ⟨hole H A1, fun _ => v⟩ B' H' σ' en' → (match en'[j]? with | some (.par t') => some (ansD t2, t') | _ => none) = some (d, t') → d = ansD t2 ∧ ∃ A', Aft K B H A1 B' H' ∧ Ow K B' H' t' v A' ∧ ∀ q ∈ A', q ∈ A1 ∨ H q = none := fun t2 d t' σ' en' B' H' hE e => by
        split at e
        · rename_i t3 hj
          cases e
          obtain ⟨v2, A2, h2, w2, f2, z2⟩ := hE.own_tree hj rfl
          have ro := hE.root j t' _ hj h2
          cases ro
          refine ⟨rfl, A2, aft_of hE.ext, w2, fun q hq => ?_⟩
          by_cases c : q ∈ A1
          · exact .inl c
          · have z := z2 q hq
            have z : hole H A1 q = none := z
            rw [hole_out c] at z
            exact .inr z
        · cases e
      refine hd.c B ⟨hole H A1, fun _ => v⟩ B H (L2.start N vs) (entryP N.length j tr ds) o (entryP_ok hB hv r w1 (by omega)) e1 _ ?_ ?_
      · cases o with
        | nx en => cases e
        | rt d => cases e
        | bk en => cases e
        | ct en => cases e
        | rm t2 en =>
          intro u A2 σ' B' H' x hE w2 _
          obtain ⟨_, A', a, w', f'⟩ := fin t2 d tr' σ' en B' H' hE e
          exact kq u B' H' A' a w' f'
      · cases o with
        | nx en => trivial
        | rt d => cases e
        | bk en => cases e
        | ct en => cases e
        | rm t2 en =>
          intro d2 c ns fs ht hx C hC σ' B' H' xs dA hE hd r2
          subst ht
          obtain ⟨ed, A', a, w', f'⟩ := fin (.lf d2) d tr' σ' en B' H' hE e
          have ed : d = d2 := ed
          subst ed
          exact kx c ns fs hx C hC B' H' A' xs dA a w' f' hd r2
    · rw [if_neg hl] at e; cases e
end
section
variable {K : PySem.W.Frag} {X : Cx} {pos pos1 apos : Pos} {e o : Expr} {es : List Expr} {tr : TA} {fr : En → Option (List D)} {i : Nat} {C m : Str} {Ca g : Addr} {fd : FuncData} {ps : List Str} {k : Nat} {FM : Tr → List D → Option (D × Tr)}
def sRetNew (f : En → Option Tr) : En → Option Out := fun en => (f en).map fun t => .rm t en
theorem ds_retNew {x : Str} {p pos2 : Pos} (M : Mk X.K Ca g) (G : FnOk X.prog X.w X.K X.mg X.base (L2.CX X.prog X.w) k g fd ps (spPX X.K 0 FM)) (hr : Room (k + 1) X.A) (hg : Gl X x) (hm : X.mg x = some (.ref Ca)) (hC : PySem.W.nsIn X.K mainGlobals C = some (some (.ref Ca))) (hb : Binds X.K fd ps []) (ha : DA X (e :: es) tr fr)
    (hdb : (x == ("__debug__" : Str)) = false := by decide) (he : starEach (e :: es) X.env = (false, eval e X.env) :: starEach es X.env := by rfl) (hpl : (backTo pos (starEach es X.env)).any (·.1) = false := by rfl) :
    DS X (.Return (some (.Call (.Name x p) (e :: es) [] pos)) pos2) (tRet (tMake Ca (spPX X.K 0 FM) [] E0 tr)) (sRetNew (newM C FM fr)) := ⟨ps_ret (pe_make M G hr hg hm hb .nil passL ha.p hdb he hpl), fun B0 H0 B H σ en out hE q Dn kk => by
  obtain ⟨t, e1, rfl⟩ := omap q
  refine make_core hC ha.c hE e1 fun v B1 H1 A1 x1 w1 f1 => ?_
  exact kk v A1 σ B1 H1 x1.bb (hE.up x1) w1 fun q hq => ⟨fresh_back hE.ext.hh (f1 q hq), fun j s ov a b => hE.nref (f1 q hq) x1 j s ov a b⟩⟩
end
end DD
namespace DD
open PySem PySem.Spec PyProof.Rows L2 Evl SUP
section
variable {K : PySem.W.Frag} {X : Cx} {pos pos1 apos : Pos} {e o : Expr} {es : List Expr} {tr : TA} {fr : En → Option (List D)} {B H B0 : Hp} {H0 : HB} {σ : L2.St} {en : En} {i : Nat} {C m : Str} {Ca g : Addr} {fd : FuncData} {ps : List Str} {k : Nat} {F : Tr → List D → Option (D × Tr)}
theorem methD_core {E : XK} {q : D × En} (hC : PySem.W.nsIn K mainGlobals C = some (some (.ref Ca))) (hE : EnOk K B0 H0 B H σ en) (ha : CA K tr fr) (h : callMV i C m F fr en = some q) {Q : VK}
    (kq : ∀ u B' H', Ex B B' → EnOk K B0 H0 B' H' σ q.2 → Q u H') : tMeth Ca m (spPD K 0 F) [] E (tVar i) tr σ H Q := by
  obtain ⟨h, hx0⟩ := callMV_some h
  obtain ⟨ds, s, t, t', e1, e2, e3, e0, e4, e5⟩ := callM_some h
  obtain ⟨v, A, hv, w, _, _⟩ := hE.own_tree e2 e3
  obtain ⟨a, dx, fs, rfl, ha', l⟩ := ob_meth e0 hC w
  refine ⟨.ref a, hv, a, dx, fs, rfl, ha', l, ha B0 H0 B H σ en ds hE e1 _ fun vs B1 H1 x r => ?_⟩
  have w1 := Ow.ext x t _ A w
  refine ⟨B1, ds, t, .ref a, A, q.1, t', x.bh, rfl, by rw [List.append_nil]; exact r, w1, e4, fun u B2 H2 A' af w' f => ?_, fun c ns fs' hx => ?_⟩
  · refine kq u B2 H2 (x.bb.trans af.bb) ?_
    rw [e5]
    exact (hE.up x).aft e2 e3 hv w1 af w' f
  · rw [hx0] at hx
    cases hx
theorem ds_dropPD {pl : Sem Bool} (hC : PySem.W.nsIn X.K mainGlobals C = some (some (.ref Ca))) (c : Cls X.K Ca) (hm : Meth X.K Ca m g) (G : FnOk X.prog X.w X.K X.mg X.base (L2.CX X.prog X.w) k g fd ps (spPD X.K 0 F)) (hr : Room k X.A) (hb : Binds X.K fd ps []) (hx : PE X o (tVar i)) (ha : DA X (e :: es) tr fr)
    (hst : starEach (e :: es) X.env = (false, eval e X.env) :: starEach es X.env := by rfl) (hpl : (backTo pos (starEach es X.env)).any (·.1) = false := by rfl)
    (ht : eval (.Call (.Attribute o m apos) (e :: es) [] pos) X.env = (do
      let ov ← eval o X.env
      standAt apos.atName
      let (f, first) ← holding [ov] (getMethod ov m pl)
      callWith pos f first (backTo pos (starEach (e :: es) X.env)) (backToKw pos (keywordEach [] X.env))) := by rfl)
    (hs : swapsWith (.Call (.Attribute o m apos) (e :: es) [] pos) none pos1.line X.env = pure false := by rfl) :
    DS X (.Expr (.Call (.Attribute o m apos) (e :: es) [] pos) pos1) (tDrop (tMeth Ca m (spPD X.K 0 F) [] E0 (tVar i) tr)) (sDropM (callMV i C m F fr)) := ⟨ps_expr (pe_meth (pl := pl) hx c hm G hr hb .nil passL ha.p hst hpl ht) hs, fun B0 H0 B H σ en out hE q Dn kk => by
  obtain ⟨p, e1, rfl⟩ := omap q
  exact methD_core hC hE ha.c e1 fun u B' H' x hE' => kk σ B' H' x hE'⟩
end
end DD

namespace DD
open PySem PySem.Spec PyProof.Rows L2 Evl SUP
def sPopF4 (i j : Nat) (C f f2 f3 f4 : Str) : En → Option Out := fun en => (en[i]?).bind fun s => (slT s).bind fun u => match u with
  | .ob C' ns ts => if C' = C ∧ ns.length < 1000 then (match fieldT ns ts f with
    | some (.ls us) => (lfs us).bind fun ds => match ds[ds.length - 1]? with
      | some (.tup [d1, d2, d3, d4]) =>
        let r0 := (setT ns ts f (.ls (ds.dropLast.map Tr.lf))).2
        let r1 := setT ns r0 f2 (.lf d2)
        let r2 := setT r1.1 r1.2 f3 (.lf d3)
        let r3 := setT r2.1 r2.2 f4 (.lf d4)
        if r1.1.length < 1000 ∧ r2.1.length < 1000 then some (.nx ((en.set j (.dat d1)).set i (setS s (.ob C r3.1 r3.2)))) else none
      | _ => none
    | _ => none) else none
  | _ => none
section
variable {X : Cx} {C f f2 f3 f4 y : Str} {Ca : Addr} {i j k : Nat} {o o2 o3 o4 : Expr} {pos pos' p2 p3 p4 pt apos cpos py : Pos}
theorem ds_popF4 (hij : i ≠ j) (hcm : X.calm = true) (hC : PySem.W.nsIn X.K mainGlobals C = some (some (.ref Ca))) (c : Cls X.K Ca) (n : NoAttr X.K Ca f) (n2 : NoAttr X.K Ca f2) (n3 : NoAttr X.K Ca f3) (n4 : NoAttr X.K Ca f4) (hx : PE X o (tVar i)) (hx2 : PE X o2 (tVar i)) (hx3 : PE X o3 (tVar i)) (hx4 : PE X o4 (tVar i)) (hN : X.N.Nodup) (hj : X.N[j]? = some y) (hy : Loc X.env.scope y)
    (hb : attributeBase o f X.env (eval o X.env) = eval o X.env := by rfl)
    (hbase : attributeBase (.Attribute o f pos') "pop" X.env (eval (.Attribute o f pos') X.env) = eval (.Attribute o f pos') X.env := by rfl) (hline : (apos.endLine == cpos.line) = true := by rfl)
    (hf : X.fn y = true ∨ X.env.scope.names.lookup y = some .local := by first | exact .inl rfl | exact .inr rfl | assumption)
    (hs : swapsWithSole [.Tuple [.Name y py, .Attribute o2 f2 p2, .Attribute o3 f3 p3, .Attribute o4 f4 p4] k pt] (.Call (.Attribute (.Attribute o f pos') "pop" apos) [] [] cpos) pos.line X.env = pure false := by rfl) (hw : swappedStores [.Tuple [.Name y py, .Attribute o2 f2 p2, .Attribute o3 f3 p3, .Attribute o4 f4 p4] k pt] (.Call (.Attribute (.Attribute o f pos') "pop" apos) [] [] cpos) X.env = pure none := by rfl)
    (ha1 : (assignEach [.Tuple [.Name y py, .Attribute o2 f2 p2, .Attribute o3 f3 p3, .Attribute o4 f4 p4] k pt] X.env).map (·.2) = [assign (.Tuple [.Name y py, .Attribute o2 f2 p2, .Attribute o3 f3 p3, .Attribute o4 f4 p4] k pt) X.env] := by rfl)
    (ha2 : (assignEach [.Name y py, .Attribute o2 f2 p2, .Attribute o3 f3 p3, .Attribute o4 f4 p4] X.env).length = 4 := by rfl) (ha3 : (assignEach [.Name y py, .Attribute o2 f2 p2, .Attribute o3 f3 p3, .Attribute o4 f4 p4] X.env).findIdx? (·.1) = none := by rfl)
    (hb1 : (assignEach (.Name y py :: [.Attribute o2 f2 p2, .Attribute o3 f3 p3, .Attribute o4 f4 p4]) X.env).map (·.2) = assign (.Name y py) X.env :: (assignEach [.Attribute o2 f2 p2, .Attribute o3 f3 p3, .Attribute o4 f4 p4] X.env).map (·.2) := by rfl)
    (hb2 : (assignEach (.Attribute o2 f2 p2 :: [.Attribute o3 f3 p3, .Attribute o4 f4 p4]) X.env).map (·.2) = assign (.Attribute o2 f2 p2) X.env :: (assignEach [.Attribute o3 f3 p3, .Attribute o4 f4 p4] X.env).map (·.2) := by rfl)
    (hb3 : (assignEach (.Attribute o3 f3 p3 :: [.Attribute o4 f4 p4]) X.env).map (·.2) = assign (.Attribute o3 f3 p3) X.env :: (assignEach [.Attribute o4 f4 p4] X.env).map (·.2) := by rfl)
    (hb4 : (assignEach (.Attribute o4 f4 p4 :: []) X.env).map (·.2) = assign (.Attribute o4 f4 p4) X.env :: (assignEach [] X.env).map (·.2) := by rfl) :
    DS X (.Assign [.Tuple [.Name y py, .Attribute o2 f2 p2, .Attribute o3 f3 p3, .Attribute o4 f4 p4] k pt] (.Call (.Attribute (.Attribute o f pos') "pop" apos) [] [] cpos) pos)
      (tAsg (tBM0 X.K "list" rPop (tFld X.K (tVar i) f)) (gTup X.K 4 (gCons (gName j) (gCons (gFldT X.K (tVar i) f2) (gCons (gFldT X.K (tVar i) f3) (gCons (gFldT X.K (tVar i) f4) gNil)))))) (sPopF4 i j C f f2 f3 f4) :=
  ⟨ps_asg (pe_bm0 PySem.F.plainAttrs_list PySem.F.slot_list_pop PySem.F.type_list_pop mt_pop (pe_fld hx hb) hbase hline) (pg_tup hcm (pgs_cons (pg_name hN hj hy hf) (pgs_cons (pg_attr hx2) (pgs_cons (pg_attr hx3) (pgs_cons (pg_attr hx4) pgs_nil hb4) hb3) hb2) hb1) ha2 ha3) hs hw ha1, fun B0 H0 B H σ en out hE q Dn kk => by
    obtain ⟨s, hi, q⟩ := obind q
    obtain ⟨u, hu, q⟩ := obind q
    split at q
    · rename_i C' ns ts
      obtain ⟨⟨rfl, hl⟩, q⟩ := oite' q
      split at q
      · rename_i us ht
        obtain ⟨ds, hus, q⟩ := obind q
        split at q
        · rename_i d1 d2 d3 d4 hd
          obtain ⟨⟨l1, l2⟩, q⟩ := oite' q
          cases q
          obtain ⟨a, dx, fs, l, vs, yv, e1, e2, e3, e4, e5, ry, hE1⟩ := popF_core hC hE hi hu ht (lfs_some hus) hd
          refine ⟨.ref a, e1, a, Ca, dx, fs, .ref l, rfl, e2, c, n, e3, .inl ⟨rfl, vs, SqL.of e4⟩, l, vs, yv, rfl, rfl, e4, e5, ?_⟩
          cases ry with
          | tup sy ry =>
            rename_i ay xs
            cases ry with
            | cons r1 ry =>
              cases ry with
              | cons r2 ry =>
                cases ry with
                | cons r3 ry =>
                  cases ry with
                  | cons r4 ry =>
                    cases ry
                    have hlen := (List.getElem?_eq_some_iff.mp hi).1
                    have hE2 := hE1.set j r1
                    rw [List.set_comm _ _ hij] at hE2
                    have g0 : ∀ u' : Tr, ((en.set j (.dat d1)).set i (setS s u'))[i]? = some (setS s u') := fun u' => List.getElem?_set_self (by rw [List.length_set]; exact hlen)
                    obtain ⟨a2, dx2, fs2, z1, z2, z3, hE3⟩ := setF_leaf (f := f2) hC hE2 (g0 _) (slT_set _ hu) hl r2
                    rw [List.set_set, setS_set _ _ hu] at hE3
                    obtain ⟨a3, dx3, fs3, y1, y2, y3, hE4⟩ := setF_leaf (f := f3) hC hE3 (g0 _) (slT_set _ hu) l1 r3
                    rw [List.set_set, setS_set _ _ hu] at hE4
                    obtain ⟨a4, dx4, fs4, w1, w2, w3, hE5⟩ := setF_leaf (f := f4) hC hE4 (g0 _) (slT_set _ hu) l2 r4
                    rw [List.set_set, setS_set _ _ hu] at hE5
                    refine ⟨ay, _, rfl, SqT.of (hE1.bh _ _ sy), rfl, _, _, rfl, ?_⟩
                    refine ⟨_, _, rfl, .ref a2, z1, a2, Ca, dx2, fs2, rfl, z2, c, n2, z3, ?_⟩
                    refine ⟨_, _, rfl, .ref a3, y1, a3, Ca, dx3, fs3, rfl, y2, c, n3, y3, ?_⟩
                    refine ⟨_, _, rfl, .ref a4, w1, a4, Ca, dx4, fs4, rfl, w2, c, n4, w3, ?_⟩
                    exact ⟨rfl, kk _ B _ (Ex.refl _) hE5⟩
        · cases q
      · cases q
    · cases q⟩
end
end DD

namespace DD
open PySem PySem.Spec PyProof.Rows L2 Evl SUP
section
variable {K : PySem.W.Frag} {X : Cx} {pos : Pos} {a b : Expr} {ta tb : TE} {fa fb : En → Option D} {i k : Nat} {C : Str} {Ca g : Addr} {fd : FuncData} {ps : List Str}
def rInO (neg : Bool) (Ca : Addr) (sp : Sp) : R2 := fun x y H Q => ∃ p dy gs, y = .ref p ∧ H p = some (.ins Ca dy gs) ∧ sp [y, x] H (fun v H' => ∃ c, v = .bl c ∧ Q (.bl (if neg = true then !c else c)) H') E0
theorem inO_core {neg : Bool} {sp : Sp} (h : SpecOf X.K Ca "__contains__" g) (G : FnOk X.prog X.w X.K X.mg X.base CX0 k g fd ps sp) (hr : Room k X.A) (hb : Binds X.K fd ps []) {pins : List (Addr × Obj)} {s : Shared} {σ : L2.St} {H : Hp} {x : V} {p dy : Addr} {gs : List (Str × V)} {v : Value} {Q : VK} (I : Inv X pins σ H s) (rx : RelV x v)
    (hp : H p = some (.ins Ca dy gs)) (hsp : sp [.ref p, x] H (fun v H' => ∃ c, v = .bl c ∧ Q (.bl (if neg = true then !c else c)) H') E0) :
    wpAny (model X.prog X.w) X.A (call (.ref g) [.ref p, v]) (fun r s' => wpAny (model X.prog X.w) X.A (truthy r) (fun c s2 => EP X pins σ Q (.bool (if neg = true then !c else c)) s2) X.xe s') X.xe s := by
  have hl := G.len _ _ _ _ hsp
  have r2 : Vals [V.ref p, x] [Value.ref p, v] := .cons rfl (.cons rx .nil)
  refine wpAny_call (codeAny_mono (G.run X.A X.stack s H ⟨[.ref p, v], []⟩ [.ref p, v] [.ref p, x] _ E0 hr I.env0 (by
    have z := hb s [.ref p, v] I.kIn (by simpa using hl)
    simpa using z) r2 hsp) fun r s' hq => ?_)
  cases r with
  | error e => exact pass0 pins σ H s e s' I hq
  | ok fl =>
    cases fl with
    | ret w =>
      obtain ⟨z, H', I', rz, c, ez, ex⟩ := I.after hq
      subst ez
      cases rz
      exact wpAny_truthy_bool ⟨.bl (if neg = true then !c else c), H', I', rfl, ex⟩
    | next => exact False.elim hq
    | brk => exact False.elim hq
    | cont => exact False.elim hq
theorem op_notInO {sp : Sp} (h : SpecOf X.K Ca "__contains__" g) (G : FnOk X.prog X.w X.K X.mg X.base CX0 k g fd ps sp) (hr : Room k X.A) (hb : Binds X.K fd ps []) : OpR X (compareOp .NotIn) (rInO true Ca sp) := by
  intro pins s σ H x y v u Q I rx ry hq
  obtain ⟨p, dy, gs, rfl, hp, hsp⟩ := hq
  cases ry
  obtain ⟨m, hF⟩ := I.fr
  obtain ⟨o, od, J⟩ := ins_at I hp
  exact PySem.W.notIn_K hF I.ok.mod.kin J h.at_ h.isf (inO_core (neg := true) h G hr hb I rx hp hsp)
def dInO (neg : Bool) (i : Nat) (C : Str) (F : Tr → List D → Option D) (fa : En → Option D) : En → Option D := fun en => (fa en).bind fun x => (en[i]?).bind fun s => (slA s).bind fun t => if obC C t = true then (match F t [x] with
  | some (.bl c) => some (.bl (if neg = true then !c else c))
  | _ => none) else none
theorem ce_inO {neg : Bool} {F : Tr → List D → Option D} (hC : PySem.W.nsIn K mainGlobals C = some (some (.ref Ca))) (ha : CE K ta fa) : CE K (tOp (rInO neg Ca (spR K F)) ta (tVar i)) (dInO neg i C F fa) := fun B0 H0 B H σ en d hE e Q kk => by
  obtain ⟨x, e1, e⟩ := obind e
  obtain ⟨s, e2, e⟩ := obind e
  obtain ⟨t, e3, e⟩ := obind e
  obtain ⟨e0, e⟩ := oite' e
  split at e
  · rename_i c e5
    cases e
    refine ha B0 H0 B H σ en x hE e1 _ fun v B1 H1 x1 r1 => ?_
    obtain ⟨u, A, hv, w⟩ := sub_keep hE x1 e2 e3
    obtain ⟨p, dx, fs, rfl, hp⟩ := ob_ins e0 hC w
    refine ⟨.ref p, hv, p, dx, fs, rfl, hp, B1, [x], t, .ref p, [v], A, .bl c, x1.bh, rfl, .cons r1 .nil, w, e5, fun u B' H' x2 r => ?_⟩
    cases r
    exact ⟨c, rfl, kk _ B' H' (x1.trans x2) (.bl _)⟩
  · cases e
theorem dt_notInO {F : Tr → List D → Option D} (hC : PySem.W.nsIn X.K mainGlobals C = some (some (.ref Ca))) (h : SpecOf X.K Ca "__contains__" g) (G : FnOk X.prog X.w X.K X.mg X.base CX0 k g fd ps (spR X.K F)) (hr : Room k X.A) (hb : Binds X.K fd ps []) (ha : DE X a ta fa) (hx : PE X b (tVar i)) (hm : behindInMarks .NotIn b = false := by rfl) :
    DT X (.Compare a [.NotIn] [b] pos) (tTest (tOp (rInO true Ca (spR X.K F)) ta (tVar i))) (tBl (dInO true i C F fa)) := DT.cmp (pt_cmpR (op_notInO h G hr hb) ha.p hx hm) (ce_inO hC ha.c)
end
end DD
namespace DD
open PySem PySem.Spec PyProof.Rows L2 Evl SUP
section
variable {X : Cx} {pos : Pos} {a : Expr} {ta : TE} {fa : En → Option D}
def dIsB (fa : En → Option D) : En → Option D := fun en => (fa en).bind fun d => match d with
  | .int _ => some (.bl false)
  | .bl _ => some (.bl true)
  | _ => none
theorem de_isB {x : Str} {p p2 : Pos} (hg : Gl X "isinstance") (hm : X.mg "isinstance" = none) (hb : PE X (.Name x p2) (tC (.ty "bool"))) (ha : DE X a ta fa)
    (hs : starEach [a, .Name x p2] X.env = (false, eval a X.env) :: starEach [.Name x p2] X.env := by rfl) (hs2 : starEach [.Name x p2] X.env = (false, eval (.Name x p2) X.env) :: starEach [] X.env := by rfl) (hpl : (backTo pos (starEach [.Name x p2] X.env)).any (·.1) = false := by rfl) :
    DE X (.Call (.Name "isinstance" p) [a, .Name x p2] [] pos) (tCB (rIsi X.K) (tCons ta (tCons (tC (.ty "bool")) tNil))) (dIsB fa) :=
  ⟨pe_callB call_isi hg hm (by decide +kernel) (pa_cons ha.p (pa_cons hb pa_nil hs2) hs) (by decide) (by decide) hs hpl, fun B0 H0 B H σ en d hE e Q kk => by
    obtain ⟨z, e1, e⟩ := obind e
    refine ha.c B0 H0 B H σ en z hE e1 _ fun v B1 H1 x1 r => ?_
    split at e
    · cases e
      cases r
      exact ⟨_, .ty "bool", .type "int", .type "bool", false, rfl, .ty "bool", .base (.int _), rfl, kk _ B1 H1 x1 (.bl false)⟩
    · cases e
      cases r
      exact ⟨_, .ty "bool", .type "bool", .type "bool", true, rfl, .ty "bool", .base (.bl _), rfl, kk _ B1 H1 x1 (.bl true)⟩
    · cases e⟩
end
end DD

namespace DD
open PySem PySem.Spec PyProof.Rows L2 Evl SUP
def OutT (K : PySem.W.Frag) (B0 : Hp) (H0 : HB) (B : Hp) (W : WX) (Dn : Ends) : Out → Prop
  | .rm (.lf d) en => (excOf d = none → OutOk K B0 H0 B Dn (.rm (.lf d) en)) ∧ ∀ c ns fs, excOf d = some (c, ns, fs) → ∀ Ce, PySem.W.nsIn K mainGlobals c = some (some (.ref Ce)) → ∀ σ B' H' xs dA, Ex B B' → EnOk K B0 H0 B' H' σ en → H' dA = some (.xd ((ns.zip xs).reverse)) → RpAll K B' xs fs → W (.ref Ce) (some dA) σ H'
  | _ => False
structure DTB (X : Cx) (sts : List Stmt) (tb : WX → TS) (g : En → Option Out) : Prop where
  p : ∀ W pn xe, Takes (X.tr pn xe) W → PSs (X.tr pn xe) sts (tb W)
  c : ∀ (W : WX) B0 H0 B H σ en o, EnOk X.K B0 H0 B H σ en → g en = some o → ∀ Dn : Ends, OutT X.K B0 H0 B W Dn o → tb W Dn σ H
section
variable {X : Cx} {e a b : Expr} {sa rest : List Stmt} {pos pos1 p1 : Pos} {tc : WX → TE} {f : En → Option (D × En)} {tt : TT} {ft : En → Option Bool} {ta tr : WX → TS} {ga gr : En → Option Out} {K : PySem.W.Frag} {B B' B0 : Hp} {H0 : HB} {W : WX} {Dn : Ends} {o : Out}
theorem OutT.up (h : OutT K B0 H0 B W Dn o) (x : Ex B B') : OutT K B0 H0 B' W Dn o := by
  cases o with
  | rm t en =>
    cases t with
    | lf d => exact ⟨fun z => (h.1 z).up x, fun c ns fs hx Ce hC σ B2 H2 xs dA y => h.2 c ns fs hx Ce hC σ B2 H2 xs dA (x.trans y)⟩
    | _ => exact h.elim
  | _ => exact h.elim
def bRet (f : En → Option (D × En)) : En → Option Out := fun en => (f en).map fun q => .rm (.lf q.1) q.2
theorem dtb_ret (h : DEM X e tc f) : DTB X [.Return (some e) pos] (fun W => tRet (tc W)) (bRet f) := ⟨fun W pn xe tk => pss_one (ps_ret (h.p W pn xe tk)), fun W B0 H0 B H σ en o hE w Dn k => by
  obtain ⟨q, e1, rfl⟩ := omap w
  refine h.c W B0 H0 B H σ en q hE e1 _ (fun u B' H' x hE' r => ?_) fun c ns fs hx Ce hCe B' H' xs dA x hE' hd r => k.2 c ns fs hx Ce hCe σ B' H' xs dA x hE' hd r
  exact (k.1 (rp_value r)) u [] σ B' H' x hE' (.lf r) fun q hq => (List.not_mem_nil hq).elim⟩
def bIf (ft : En → Option Bool) (ga gr : En → Option Out) : En → Option Out := fun en => (ft en).bind fun c => if c = true then ga en else gr en
theorem dtb_if (ht : ∀ pn xe, DT (X.tr pn xe) e tt ft) (ha : DTB X sa ta ga) (hr : DTB X rest tr gr) : DTB X (.If e sa [] p1 :: rest) (fun W => tSeq (tIfS tt (ta W) tNext) (tr W)) (bIf ft ga gr) := ⟨fun W pn xe tk => pss_cons (ps_if (ht pn xe).p (ha.p W pn xe tk) pss_nil) (hr.p W pn xe tk), fun W B0 H0 B H σ en o hE w Dn k => by
  obtain ⟨c, e1, w⟩ := obind w
  refine (ht [] (fun _ _ => False)).c B0 H0 B H σ en c hE e1 _ fun B1 H1 x => ?_
  have k1 := k.up x.bb
  cases c with
  | true =>
    rw [if_pos rfl] at w ⊢
    refine ha.c W B0 H0 B1 H1 σ en o (hE.up x) w _ ?_
    cases o with
    | rm t en' =>
      cases t with
      | lf d => exact k1
      | _ => exact k1.elim
    | _ => exact k1.elim
  | false =>
    rw [if_neg Bool.false_ne_true] at w ⊢
    exact hr.c W B0 H0 B1 H1 σ en o (hE.up x) w Dn k1⟩
theorem dtb_never {st : Stmt} {ts : TS} (hp : ∀ pn xe, PSs (X.tr pn xe) rest ts) : DTB X (st :: rest) (fun W => tSeq tNever ts) (fun _ => none) := ⟨fun W pn xe tk => pss_cons ps_never (hp pn xe), fun W B0 H0 B H σ en o hE w => nomatch w⟩
end
section
variable {X : Cx} {C : Addr} {i : Nat} {names : List Str} {e : Expr} {sts : List Stmt} {rE : Addr → Value → Option Addr → TE} {rT : Addr → Value → Option Addr → TT} {rS rV : Addr → Value → Option Addr → TS} {gE : List D → En → Option D} {gT : List D → En → Option Bool} {gS gW : List D → En → Option Out}
theorem dsr_retK {p1 : Pos} (h : DEr X C i names e rE gE) : DSr X C i names [.Return (some e) p1] (fun a cls d => tRet (rE a cls d)) (fun fs => sRetK (gE fs)) :=
  ⟨fun a oe cls d pn hz hf => pss_one (ps_ret (h.p a oe cls d pn hz hf)), fun a dA xs fs B0 H0 B H σ en o hE g q Dn k => by
    obtain ⟨d, e1, rfl⟩ := omap q
    exact h.c a dA xs fs B0 H0 B H σ en d hE g e1 _ fun v B1 H1 x r => k v [] σ B1 H1 x.bb (hE.up x) (.lf r) fun q hq => (List.not_mem_nil hq).elim⟩
def sLeaveK (o : Option Out) : Option Out := o.bind fun
  | .rm t en => some (.rm t en)
  | _ => none
def sHifK (ft : En → Option Bool) (g h : En → Option Out) : En → Option Out := fun en => (ft en).bind fun b => if b = true then sLeaveK (g en) else h en
theorem dsr_ifK {p1 : Pos} {body : List Stmt} (hc : DTr X C i names e rT gT) (ha : DSr X C i names body rS gS) (hb : DSr X C i names sts rV gW) :
    DSr X C i names (.If e body [] p1 :: sts) (fun a cls d => tSeq (tIfS (rT a cls d) (rS a cls d) tNext) (rV a cls d)) (fun fs => sHifK (gT fs) (gS fs) (gW fs)) :=
  ⟨fun a oe cls d pn hz hf => pss_cons (ps_if (hc.p a oe cls d pn hz hf) (ha.p a oe cls d pn hz hf) pss_nil) (hb.p a oe cls d pn hz hf), fun a dA xs fs B0 H0 B H σ en o hE g q Dn k => by
    obtain ⟨b, e1, q⟩ := obind q
    refine hc.c a dA xs fs B0 H0 B H σ en b hE g e1 _ fun B1 H1 x => ?_
    have g1 := g.up x
    have k1 := k.up x.bb
    cases b with
    | true =>
      rw [if_pos rfl] at q ⊢
      obtain ⟨o1, e2, q⟩ := obind q
      refine ha.c a dA xs fs B0 H0 B1 H1 σ en o1 (hE.up x) g1 e2 _ ?_
      cases o1 with
      | rm t en' => cases q; exact k1
      | _ => cases q
    | false =>
      rw [if_neg Bool.false_ne_true] at q ⊢
      exact hb.c a dA xs fs B0 H0 B1 H1 σ en o (hE.up x) g1 q Dn k1⟩
end
def outR : Out → Option Out
  | .rm t en => some (.rm t en)
  | _ => none
def sTryR (gb : En → Option Out) (c : Str) (names : List Str) (i : Nat) (gS : List D → En → Option Out) : En → Option Out := fun en => (gb en).bind fun
  | .rm (.lf d) en' => match excOf d with
    | none => some (.rm (.lf d) en')
    | some p => if i < en'.length ∧ p.1 = c ∧ p.2.1 = names then (gS p.2.2 (en'.set i .no)).bind outR else none
  | _ => none
section
variable {X : Cx} {rS : Addr → Value → Option Addr → TS} {gS : List D → En → Option Out}
theorem ds_tryR {C S : Addr} {c nS n : Str} {i : Nat} {names : List Str} {b₀ : Stmt} {suite body : List Stmt} {np pos' post : Pos} {tb : WX → TS} {gb : En → Option Out}
    (hns : PySem.W.nsIn X.K mainGlobals c = some (some (.ref C))) (exm : PySem.W.exmOne X.K (.ref C) (.ref S) = some true) (hgS : Gl X nS) (hmS : X.mg nS = some (.ref S)) (hN : X.N.Nodup) (hi : X.N[i]? = some n) (hln : X.env.kindOf n = some .local)
    (hb : DTB X body tb gb) (hsu : DSr X C i names (b₀ :: suite) rS gS) (hs : X.stack = X.env :: X.outer := by rfl) (hf : X.env.frame = some X.env.locals := by rfl) (hdS : (nS == ("__debug__" : Str)) = false := by decide) :
    DS X (.Try body [.ExceptHandler (some (.Name nS np)) (some n) (b₀ :: suite) pos'] [] [] post) (fun Dn σ H => tb (wAs X.K (.ref S) i rS (fun _ _ _ _ => False) Dn) Dn σ H) (sTryR gb c names i gS) :=
  ⟨ps_try_as (tb := tb) (ts := rS) hs hf hN hi hln ⟨hgS, hdS, .inl hmS⟩ takes0 (fun W pn xe tk _ => hb.p W pn xe tk) (fun a oe cls d pn hz hfl => hsu.p a oe cls d pn hz hfl),
    fun B0 H0 B H σ en o hE q Dn k => by
      obtain ⟨ob, e1, q⟩ := obind q
      refine hb.c _ B0 H0 B H σ en ob hE e1 Dn ?_
      cases ob with
      | rm t en' =>
        cases t with
        | lf d =>
          refine ⟨fun z => ?_, fun c' ns fs hx C' hC' σ' B1 H1 xs dA x hE1 hd r => ?_⟩
          · have q' : (match excOf d with | none => some (Out.rm (.lf d) en') | some p => if i < en'.length ∧ p.1 = c ∧ p.2.1 = names then (gS p.2.2 (en'.set i .no)).bind outR else none) = some o := q
            rw [z] at q'
            cases q'
            exact k
          · have q' : (match excOf d with | none => some (Out.rm (.lf d) en') | some p => if i < en'.length ∧ p.1 = c ∧ p.2.1 = names then (gS p.2.2 (en'.set i .no)).bind outR else none) = some o := q
            rw [hx] at q'
            have qq : (if i < en'.length ∧ c' = c ∧ ns = names then (gS fs (en'.set i .no)).bind outR else none) = some o := q'
            clear q q'
            by_cases hc : i < en'.length ∧ c' = c ∧ ns = names
            · rw [if_pos hc] at qq
              obtain ⟨hil, rfl, rfl⟩ := hc
              rw [hns] at hC'
              cases hC'
              obtain ⟨o1, e2, q⟩ := obind qq
              refine ⟨true, exm, fun _ a na => ?_, fun z => nomatch z⟩
              have hE2 : EnOk X.K B0 H0 B1 H1 (σ'.set i (some (.ref a))) (en'.set i .no) := hE1.put i trivial (fun _ f => f.elim) fun _ _ _ _ _ _ _ f _ => f.elim
              refine hsu.c a dA xs fs B0 H0 B1 H1 _ _ o1 hE2 ⟨List.getElem?_set_self (by rw [hE1.len]; exact hil), hd, r⟩ e2 _ ?_
              have k1 := k.up x
              cases o1 with
              | rm t en2 => cases q; exact k1
              | _ => cases q
            · rw [if_neg hc] at qq
              cases qq
        | _ => cases q
      | _ => cases q⟩
end
section
variable {X : Cx} {pos pos' : Pos} {e a b : Expr} {es rest : List Expr} {te ta tb : TE} {tr : TA} {tt tu : TT} {fr : En → Option (List D)} {f fb : En → Option D} {fv : En → Option (D × En)} {ft fu : En → Option (Bool × En)} {i j : Nat}
def callP (i : Nat) (F : Tr → List D → Option (D × Tr)) (fr : En → Option (List D)) : En → Option (D × En) := fun en => (fr en).bind fun ds => (en[i]?).bind fun s => (slT s).bind fun t => (F t ds).map fun q => (q.1, en.set i (setS s q.2))
theorem dv_callP {F : Tr → List D → Option (D × Tr)} {k : Nat} {fa : Addr} {fd : FuncData} {ps : List Str} {y : Str} {p : Pos} (G : FnOk X.prog X.w X.K X.mg X.base CX0 k fa fd ps (spP X.K j F)) (hr : Room k X.A) (hg : Gl X y) (hm : X.mg y = some (.ref fa)) (hk : PySem.W.keepIn X.K (.ref fa) = true) (hb : Binds X.K fd ps [])
    (ha : DAP X (e :: es) tr fr i j) (hdb : (y == ("__debug__" : Str)) = false := by decide) (he : starEach (e :: es) X.env = (false, eval e X.env) :: starEach es X.env := by rfl) (hpl : (backTo pos (starEach es X.env)).any (·.1) = false := by rfl) :
    DEv X (.Call (.Name y p) (e :: es) [] pos) (tCall (spP X.K j F) [] E0 tr) (callP i F fr) :=
  ⟨pe_call G hr hg hm hk hb .nil pass0 ha.p hdb he hpl, fun B0 H0 B H σ en q hE w Q k => by
    obtain ⟨ds, e1, w⟩ := obind w
    obtain ⟨s, e2, w⟩ := obind w
    obtain ⟨t, e3, w⟩ := obind w
    obtain ⟨⟨d, t'⟩, e4, rfl⟩ := omap w
    exact call_core hE ha.c e1 e2 e3 e4 fun u B' H' bb hE' ru => k u B' H' bb hE' ru⟩
def vCmp (g : D → D → Option D) (fa : En → Option (D × En)) (fb : En → Option D) : En → Option (D × En) := fun en => (fa en).bind fun q => (fb q.2).bind fun y => (g q.1 y).map fun d => (d, q.2)
theorem dv_cmpV {op : CmpOp} {r : R2} {gg : D → D → Option D} (ho : OpR X (compareOp op) r) (hr : OpD X.K r gg) (ha : DEv X a ta fv) (hb : DE X b tb fb) (hm : behindInMarks op b = false) : DEv X (.Compare a [op] [b] pos) (tOp r ta tb) (vCmp gg fv fb) :=
  ⟨pe_cmpR ho ha.p hb.p hm, fun B0 H0 B H σ en q hE h Q kq => by
    obtain ⟨p, e1, h⟩ := obind h
    obtain ⟨y, e2, h⟩ := obind h
    obtain ⟨d, e3, rfl⟩ := omap h
    refine ha.c B0 H0 B H σ en p hE e1 _ fun u B1 H1 x1 hE1 r1 => ?_
    refine hb.c B0 H0 B1 H1 σ p.2 y hE1 e2 _ fun v B2 H2 x2 r2 => ?_
    refine hr B2 H2 u v p.1 y d x2.bh (Rp.ex x2.bb _ _ r1) r2 e3 _ fun w B3 H3 x3 r3 => ?_
    exact kq w B3 H3 (x1.trans (x2.bb.trans x3.bb)) ((hE1.up x2).up x3) r3⟩
theorem dv_eqV {n : Nat} (hr : Room n X.A) (ha : DEv X a ta fv) (hb : DE X b tb fb) : DEv X (.Compare a [.Eq] [b] pos) (tOp (rEqD X.K) ta tb) (vCmp gEq fv fb) := dv_cmpV (op_eqD hr.units) od_eq ha hb (nomark _)
theorem dv_inV {n : Nat} (hr : Room n X.A) (ha : DEv X a ta fv) (hb : DE X b tb fb) (hm : behindInMarks .In b = false) : DEv X (.Compare a [.In] [b] pos) (tOp (rInD X.K) ta tb) (vCmp gInL fv fb) := dv_cmpV (op_inD (by have := hr.un; omega)) od_inL ha hb hm
def vAnd (fa : En → Option (D × En)) (fb : En → Option D) : En → Option (D × En) := fun en => (fa en).bind fun q => match q.1 with
  | .bl true => (fb q.2).map fun d => (d, q.2)
  | .bl false => some (.bl false, q.2)
  | _ => none
theorem dv_andV (h : DEv X a ta fv) (h' : DE X (.BoolOp .And (b :: rest) pos) tb fb) : DEv X (.BoolOp .And (a :: b :: rest) pos) (tAndV ta tb) (vAnd fv fb) := ⟨pe_and h.p h'.p, fun B0 H0 B H σ en q hE w Q k => by
  obtain ⟨p, e1, w⟩ := obind w
  obtain ⟨d, en1⟩ := p
  refine h.c B0 H0 B H σ en _ hE e1 _ fun v B1 H1 x hE1 r => ?_
  cases d with
  | bl c =>
    cases r
    refine ⟨c, rfl, ?_⟩
    cases c with
    | true =>
      obtain ⟨d2, e2, rfl⟩ := omap w
      exact h'.c B0 H0 B1 H1 σ en1 d2 hE1 e2 Q fun u B2 H2 y r2 => k u B2 H2 (x.trans y.bb) (hE1.up y) r2
    | false => cases w; exact k _ B1 H1 x hE1 (.bl _)
  | _ => cases w⟩
def sRetV (f : En → Option (D × En)) : En → Option Out := fun en => (f en).map fun q => .rt q.1
theorem ds_retV (h : DEv X e te fv) : DS X (.Return (some e) pos) (tRet te) (sRetV fv) := ⟨ps_ret h.p, fun B0 H0 B H σ en o hE w Dn k => by
  obtain ⟨q, e1, rfl⟩ := omap w
  exact h.c B0 H0 B H σ en q hE e1 _ fun u B1 H1 x hE1 r => k u B1 H1 hE1.ext r⟩
structure DXv (X : Cx) (e : Expr) (tt : TT) (f : En → Option (Bool × En)) : Prop where
  p : PW X e tt
  c : CTM X.K tt f
def tvAnd (ft fu : En → Option (Bool × En)) : En → Option (Bool × En) := fun en => (ft en).bind fun q => if q.1 = true then fu q.2 else some q
theorem dxv_one (h : DTv X a tt ft) : DXv X (.BoolOp .And [a] pos) tt ft := ⟨pw_and1 h.p, h.c⟩
theorem dxv_and (h : DTv X a tt ft) (h' : DXv X (.BoolOp .And (b :: rest) pos) tu fu) : DXv X (.BoolOp .And (a :: b :: rest) pos) (tAnd tt tu) (tvAnd ft fu) := ⟨pw_and h.p h'.p, fun B0 H0 B H σ en q hE w Q kq => by
  obtain ⟨p, e1, w⟩ := obind w
  refine h.c B0 H0 B H σ en p hE e1 _ fun B1 H1 x1 hE1 => ?_
  obtain ⟨c, en1⟩ := p
  cases c with
  | true => exact h'.c B0 H0 B1 H1 σ en1 q hE1 w Q fun B2 H2 x2 hE2 => kq B2 H2 (x1.trans x2) hE2
  | false => cases w; exact kq B1 H1 x1 hE1⟩
theorem DXv.dt (h : DXv X e tt ft) : DTv X e tt ft := ⟨h.p.pt, h.c⟩
end
section
variable {X : Cx} {pos : Pos} {e : Expr} {es : List Expr} {tr : TA} {fr : En → Option (List D)}
theorem pe_callR {CX : CXT} {k : Nat} {f : Addr} {x : Str} {p : Pos} {sp : Sp} {E : XK} (F : FnR X.prog X.w X.K X.mg X.base CX k f sp) (hr : Room k X.A) (hk : PySem.W.keepIn X.K (.ref f) = true) (hg : Gl X x) (hm : X.mg x = some (.ref f)) (hx : Passes CX X E) (ha : PA X (e :: es) tr) (hd : (x == ("__debug__" : Str)) = false := by decide)
    (he : starEach (e :: es) X.env = (false, eval e X.env) :: starEach es X.env := by rfl) (hpl : (backTo pos (starEach es X.env)).any (·.1) = false := by rfl) :
    PE X (.Call (.Name x p) (e :: es) [] pos) (fun σ H Q => tr σ H fun vs H1 => sp vs H1 Q E) := by
  refine ⟨fun pins s σ H Q I h => ?_⟩
  refine wpAny_Call_Name_kw (ld_glob I hg hm ?_ hd)
  refine PySem.W.callWith_K (h₀ := X.base) I.ok.mod.kin hk (thn (ha.run pos pins s σ H _ I h) fun us s1 ⟨vs, H1, I1, r, q⟩ => ⟨I1.kIn, ?_⟩) he hpl
  exact wpAny_call (run_fnR F hr hx I1 r q)
def dCallR (F : List D → Option D) (fr : En → Option (List D)) : En → Option D := fun en => (fr en).bind fun ds => if ds.length ≤ lim then F [.tup ds] else none
theorem de_callR {F : List D → Option D} {k : Nat} {fa : Addr} {y : Str} {p : Pos} (G : FnR X.prog X.w X.K X.mg X.base CX0 k fa (DD.spS X.K F)) (hr : Room k X.A) (hg : Gl X y) (hm : X.mg y = some (.ref fa)) (hk : PySem.W.keepIn X.K (.ref fa) = true)
    (ha : DA X (e :: es) tr fr) (hdb : (y == ("__debug__" : Str)) = false := by decide) (he : starEach (e :: es) X.env = (false, eval e X.env) :: starEach es X.env := by rfl) (hpl : (backTo pos (starEach es X.env)).any (·.1) = false := by rfl) :
    DE X (.Call (.Name y p) (e :: es) [] pos) (fun σ H Q => tr σ H fun vs H1 => DD.spS X.K F vs H1 Q E0) (dCallR F fr) := ⟨pe_callR G hr hk hg hm pass0 ha.p hdb he hpl, fun B0 H0 B H σ en d hE q Q k => by
  obtain ⟨ds, e1, q⟩ := obind q
  obtain ⟨hl, q⟩ := oite' q
  refine ha.c B0 H0 B H σ en ds hE e1 _ fun xs B1 H1 x r => ⟨[], xs, rfl, rfl, by rw [r.len]; exact lim_le hl, fun p hp => ?_⟩
  have y := Ext.new (o := .tup xs) x.bh hp
  exact ⟨upd B1 p (.tup xs), [.tup ds], d, y.bh, .cons (.tup upd_same (r.up y.bb)) .nil, q, fun v B2 H2 z r2 => k v B2 H2 (x.trans (y.trans z)) r2⟩⟩
theorem ds_newM0 {k : Nat} {g Ca : Addr} {C : Str} {fd : FuncData} {ps : List Str} {F : Tr → List D → Option (D × Tr)} {j : Nat} {x y : Str} {p py pos1 : Pos} (M : Mk X.K Ca g) (G : FnOk X.prog X.w X.K X.mg X.base (L2.CX X.prog X.w) k g fd ps (spPX X.K 0 F)) (hr : Room (k + 1) X.A) (hg : Gl X x) (hm : X.mg x = some (.ref Ca)) (hC : PySem.W.nsIn X.K mainGlobals C = some (some (.ref Ca))) (hb : Binds X.K fd ps [])
    (hN : X.N.Nodup) (hj : X.N[j]? = some y) (hy : Loc X.env.scope y) (hdb : (x == ("__debug__" : Str)) = false := by decide)
    (hs : swapsWith (.Call (.Name x p) [] [] pos) (some (.Name y py)) pos1.line X.env = pure false := by rfl) (hf : X.fn y = true ∨ X.env.scope.names.lookup y = some .local := by first | exact .inl rfl | exact .inr rfl | assumption) :
    DS X (.Assign [.Name y py] (.Call (.Name x p) [] [] pos) pos1) (tAsg (tMake Ca (spPX X.K 0 F) [] E0 tNil) (gName j)) (sNewM j (newM C F aNil)) := ⟨ps_set hN hj hy (pe_make0 M G hr hg hm hb .nil passL hdb) hs hf, fun B0 H0 B H σ en o hE q Dn k => by
  obtain ⟨t', e1, rfl⟩ := omap q
  exact make_core hC (da_nil (X := X)).c hE e1 fun v B' H' A' x w f => k _ B' H' x.bb (hE.newT x j w f)⟩
end
end DD

namespace DD
open PySem L2
theorem seq {g h : En → Option Out} {en en' : En} {o : Out} (h1 : g en = some (.nx en')) (h2 : h en' = some o) : sSeq g h en = some o := by
  unfold sSeq
  rw [h1]
  exact h2
theorem seqR {g h : En → Option Out} {en : En} {d : D} (h1 : g en = some (.rt d)) : sSeq g h en = some (.rt d) := by
  unfold sSeq
  rw [h1] <;> rfl
theorem sifT {ft : En → Option Bool} {g h : En → Option Out} {en : En} {o : Option Out} (h1 : ft en = some true) (h2 : g en = o) : sIf ft g h en = o := by
  unfold sIf
  rw [h1]
  exact h2
theorem sifF {ft : En → Option Bool} {g h : En → Option Out} {en : En} {o : Option Out} (h1 : ft en = some false) (h2 : h en = o) : sIf ft g h en = o := by
  unfold sIf
  rw [h1]
  exact h2
theorem run_rt {g : En → Option Out} {n k : Nat} {ds : List D} {d : D} (hl : ds.length = k) (h : g (entry n ds) = some (.rt d)) : runD g n k ds = some d := by
  unfold runD
  rw [if_pos hl, h] <;> rfl
theorem run_nx {g : En → Option Out} {n k : Nat} {ds : List D} {en : En} (hl : ds.length = k) (h : g (entry n ds) = some (.nx en)) : runD g n k ds = some .non := by
  unfold runD
  rw [if_pos hl, h] <;> rfl
theorem forGo_run {gd : D → En → Option En} {g : En → Option Out} (I : Nat → En → Prop) : ∀ (ds : List D) (j : Nat) (en : En), I j en →
    (∀ (i : Nat) (d : D) (en : En), ds[i]? = some d → I (j + i) en → ∃ en1 en2, gd d en = some en1 ∧ (g en1 = some (.nx en2) ∨ g en1 = some (.ct en2)) ∧ I (j + i + 1) en2) → ∃ en', forGo gd g ds en = some (.nx en') ∧ I (j + ds.length) en'
  | [], j, en, h0, _ => ⟨en, rfl, h0⟩
  | d :: r, j, en, h0, h => by
    obtain ⟨en1, en2, h1, h2, h3⟩ := h 0 d en rfl h0
    obtain ⟨en', h4, h5⟩ := forGo_run I r (j + 1) en2 h3 fun i d' en hd hi => by
      have q := h (i + 1) d' en (by simpa using hd) (by rw [show j + (i + 1) = j + 1 + i by omega]; exact hi)
      rw [show j + (i + 1) = j + 1 + i by omega] at q
      exact q
    refine ⟨en', ?_, by rw [List.length_cons, show j + (r.length + 1) = j + 1 + r.length by omega]; exact h5⟩
    unfold forGo
    rw [h1]
    rcases h2 with h2 | h2
    · show (g en1).bind _ = _
      rw [h2]
      exact h4
    · show (g en1).bind _ = _
      rw [h2]
      exact h4
theorem sfor {fi : En → Option (List D)} {gd : D → En → Option En} {g : En → Option Out} {en : En} (ds : List D) (hi : fi en = some ds) (I : Nat → En → Prop) (h0 : I 0 en)
    (h : ∀ (i : Nat) (d : D) (en : En), ds[i]? = some d → I i en → ∃ en1 en2, gd d en = some en1 ∧ (g en1 = some (.nx en2) ∨ g en1 = some (.ct en2)) ∧ I (i + 1) en2) : ∃ en', sFor fi gd g en = some (.nx en') ∧ I ds.length en' := by
  obtain ⟨en', h1, h2⟩ := forGo_run I ds 0 en h0 fun i d en hd hI => by
    rw [Nat.zero_add] at hI ⊢
    exact h i d en hd hI
  rw [Nat.zero_add] at h2
  refine ⟨en', ?_, h2⟩
  unfold sFor
  rw [hi]
  exact h1
theorem atI_map {α β : Type} (f : α → β) (xs : List α) (k : Nat) : atI (xs.map f) (k : Int) = (xs[k]?).map f := by
  unfold atI ixN
  by_cases h : k < xs.length
  · rw [List.length_map, if_pos (by omega), if_pos (by omega)]
    simp
  · rw [List.length_map, if_pos (by omega), if_neg (by omega)]
    rw [List.getElem?_eq_none (by omega)]
    rfl
theorem atI_at {α : Type} (xs : List α) (k : Nat) : atI xs (k : Int) = xs[k]? := by
  have h := atI_map id xs k
  simpa using h

mutual
theorem eqv_same : ∀ (d : D) (n : Nat), deep n d = true → PyData.eqv (py d) (py d) = true
  | .non, _, _ => by simp [py, PyData.eqv]
  | .bl _, _, _ => by simp [py, PyData.eqv]
  | .int _, _, _ => by simp [py, PyData.eqv]
  | .str _, _, _ => by simp [py, PyData.eqv]
  | .lst ds, 0, h => by simp [deep] at h
  | .tup ds, 0, h => by simp [deep] at h
  | .lst ds, n + 1, h => by simp only [py, PyData.eqv]; exact eqv_sameA ds n (by simpa [deep] using h)
  | .tup ds, n + 1, h => by simp only [py, PyData.eqv]; exact eqv_sameA ds n (by simpa [deep] using h)
  | .dic _ _, _, h => by simp [deep] at h
  | .dit _ _, _, h => by simp [deep] at h
  | .fn _, _, h => by simp [deep] at h
  | .ctp _, _, h => by simp [deep] at h
theorem eqv_sameA : ∀ (ds : List D) (n : Nat), deepAll n ds = true → PyData.eqvAll (pyAll ds) (pyAll ds) = true
  | [], _, _ => by simp [pyAll, PyData.eqvAll]
  | d :: ds, n, h => by
    rw [deepAll, Bool.and_eq_true] at h
    simp only [pyAll, PyData.eqvAll]
    rw [eqv_same d n h.1, eqv_sameA ds n h.2] <;> rfl
end
theorem gEq_same {d : D} (h : deep 60 d = true) : gEq d d = some (.bl true) := by
  unfold gEq
  rw [if_pos ⟨h, h⟩, eqv_same d 60 h]
theorem gNe_same {d : D} (h : deep 60 d = true) : gNe d d = some (.bl false) := by
  unfold gNe
  rw [if_pos ⟨h, h⟩, eqv_same d 60 h] <;> rfl
theorem deepAll_iff {n : Nat} : ∀ {ds : List D}, deepAll n ds = true ↔ ∀ d ∈ ds, deep n d = true
  | [] => by simp [deepAll]
  | d :: ds => by
    rw [deepAll, Bool.and_eq_true, deepAll_iff (ds := ds)]
    simp
theorem deep_tup {n : Nat} {ds : List D} : deep (n + 1) (.tup ds) = true ↔ ∀ d ∈ ds, deep n d = true := by rw [deep, deepAll_iff]
theorem deep_str {n : Nat} {x : Str} : deep n (.str x) = PyData.strOk x := by cases n <;> simp [deep]
theorem deep_int {n : Nat} {x : Int} : deep n (.int x) = true := by cases n <;> simp [deep]
theorem dVar_of {i : Nat} {en : En} {d : D} (h : en[i]? = some (.dat d)) : dVar i en = some d := by unfold dVar; rw [h]
end DD

namespace C
open PySem DD L2
def g__law_cell : En → Option Out := (sSeq (sIf (tBl (d2 gLt (dVar 1) (dCB gLen (aCons (dVar 0) aNil)))) (sRet (d2 gIx (dVar 0) (dVar 1))) sNil)
 (sRet (dC (.int 0))))
def F__law_cell : List D → Option D := runD g__law_cell 2 2
def g__law_draw : En → Option Out := (sSeq (sSet 3 (dCall F__law_cell (aCons (dVar 0) (aCons (dVar 1) aNil))))
 (sSeq (sIf (tBl (d2 gLt (dVar 3) (dC (.int 0)))) (sSet 3 (d1 gNeg (dVar 3))) sNil)
 (sSeq (sOwn 4 (lLst aNil))
 (sSeq (sIf (tBl (d2 gGe (dVar 3) (d2 gPow (dC (.int 10)) (dC (.int 18))))) (sSeq (sSet 3 (d2 gSub (dVar 3) (d2 gPow (dC (.int 10)) (dC (.int 18)))))
 (sSeq (sFor (iAny (dVar 2)) (gSet 7) (sSeq (sApp 4 (d2 gMod (dVar 3) (dVar 7)))
 (sSet 3 (d2 gFdiv (dVar 3) (dVar 7)))))
 (fun en => (sRet (dVar 4)) (frz 4 en)))) sNil)
 (sSeq (sSet 5 (d2 gMod (d2 gAdd (d2 gAdd (dVar 3) (dC (.int 1))) (d2 gMulI (dC (.int 31)) (dVar 1))) (dC (.int 2147483647))))
 (sSeq (sFor (iR1 (aCons (dCB gLen (aCons (dVar 2) aNil)) aNil)) (gSet 6) (sSeq (sSet 5 (d2 gMod (d2 gAdd (d2 gAdd (d2 gMulI (dVar 5) (dC (.int 48271))) (dC (.int 11))) (dVar 6)) (dC (.int 2147483647))))
 (sSeq (sSet 5 (d2 gMod (d2 gAdd (d2 gMulI (dVar 5) (dC (.int 69621))) (dC (.int 3))) (dC (.int 2147483647))))
 (sApp 4 (d2 gMod (d2 gFdiv (dVar 5) (dC (.int 7))) (d2 gIx (dVar 2) (dVar 6)))))))
 (fun en => (sRet (dVar 4)) (frz 4 en))))))))
def F__law_draw : List D → Option D := runD g__law_draw 8 3
theorem cell_ok (ns : List Int) (k : Nat) : F__law_cell [.lst (ns.map D.int), .int k] = some (.int (ns.getD k 0)) := by
  refine run_rt rfl ?_
  unfold g__law_cell
  by_cases h : k < ns.length
  · refine seqR (sifT (by simp [h]) (by simp [atI_map, h]))
  · refine seq (sifF (by simp [h]) rfl) (by simp [h])
theorem int_get {ds : List Int} {i : Nat} {d : D} (h : (ds.map D.int)[i]? = some d) : ∃ z : Int, d = .int z ∧ ds[i]? = some z := by
  rw [List.getElem?_map] at h
  obtain ⟨z, h1, rfl⟩ := omap h
  exact ⟨z, rfl, h1⟩
def Below (sizes ds : List Int) : Prop := ∀ (i : Nat) (a b : Int), ds[i]? = some a → sizes[i]? = some b → 0 ≤ a ∧ a < b
theorem Below.snoc {sizes ds : List Int} {a b : Int} (h : Below sizes ds) (hb : sizes[ds.length]? = some b) (h0 : 0 ≤ a) (h1 : a < b) : Below sizes (ds ++ [a]) := by
  intro i x y hx hy
  by_cases hi : i < ds.length
  · rw [List.getElem?_append_left hi] at hx
    exact h i x y hx hy
  · by_cases he : i = ds.length
    · subst he
      rw [List.getElem?_append_right (Nat.le_refl _), Nat.sub_self] at hx
      rw [hb] at hy
      cases hx; cases hy
      exact ⟨h0, h1⟩
    · rw [List.getElem?_eq_none (by rw [List.length_append]; simp; omega)] at hx
      cases hx
theorem draw_ok (ns : List Int) (k : Nat) (sizes : List Int) (hk : k ≤ 1000) (hs : ∀ z ∈ sizes, 0 < z ∧ z < 1000) (hl : sizes.length ≤ 100) : ∃ ds : List Int, F__law_draw [.lst (ns.map D.int), .int k, .lst (sizes.map D.int)] = some (.lst (ds.map D.int)) ∧ ds.length = sizes.length ∧ Below sizes ds := by
  suffices h : ∃ ds : List Int, g__law_draw (entry 8 [.lst (ns.map D.int), .int k, .lst (sizes.map D.int)]) = some (.rt (.lst (ds.map D.int))) ∧ ds.length = sizes.length ∧ Below sizes ds by
    obtain ⟨ds, h1, h2⟩ := h
    exact ⟨ds, run_rt rfl h1, h2⟩
  unfold g__law_draw
  have hc : ∃ c0 : Int, sIf (tBl (d2 gLt (dVar 3) (dC (.int 0)))) (sSet 3 (d1 gNeg (dVar 3))) sNil [.dat (.lst (ns.map D.int)), .dat (.int k), .dat (.lst (sizes.map D.int)), .dat (.int (ns.getD k 0)), .no, .no, .no, .no] = some (.nx [.dat (.lst (ns.map D.int)), .dat (.int k), .dat (.lst (sizes.map D.int)), .dat (.int c0), .no, .no, .no, .no]) := by
    by_cases h : ns.getD k 0 < 0
    · exact ⟨_, sifT (by simp at h; simp [h]) (by simp <;> rfl)⟩
    · exact ⟨_, sifF (by simp at h; simp [h]) rfl⟩
  obtain ⟨c0, hc⟩ := hc
  by_cases hbig : (1000000000000000000 : Int) ≤ c0
  · obtain ⟨en', h1, h2⟩ := sfor (fi := iAny (dVar 2)) (gd := gSet 7) (g := sSeq (sApp 4 (d2 gMod (dVar 3) (dVar 7))) (sSet 3 (d2 gFdiv (dVar 3) (dVar 7))))
      (en := [.dat (.lst (ns.map D.int)), .dat (.int k), .dat (.lst (sizes.map D.int)), .dat (.int (c0 - 1000000000000000000)), .own [], .no, .no, .no]) (sizes.map D.int) (by simp)
      (fun i en => ∃ (c : Int) (s7 : Sl) (ds : List Int), en = [.dat (.lst (ns.map D.int)), .dat (.int k), .dat (.lst (sizes.map D.int)), .dat (.int c), .own (ds.map D.int), .no, .no, s7] ∧ ds.length = i ∧ Below sizes ds)
      ⟨_, _, [], rfl, rfl, fun i a b h => by simp at h⟩ (fun i d en hd hI => by
        obtain ⟨c, s7, ds, rfl, hi, hB⟩ := hI
        obtain ⟨z, rfl, hz⟩ := int_get hd
        obtain ⟨z0, z1⟩ := hs z (List.mem_of_getElem? hz)
        have hlen : ds.length < sizes.length := by have := (List.getElem?_eq_some_iff.mp hz).1; omega
        have hlim : ds.length ≤ lim := by show ds.length ≤ 1000000; omega
        refine ⟨_, [.dat (.lst (ns.map D.int)), .dat (.int k), .dat (.lst (sizes.map D.int)), .dat (.int (c / z)), .own ((ds ++ [c % z]).map D.int), .no, .no, .dat (.int z)], rfl, .inl ?_, ⟨_, _, ds ++ [c % z], rfl, by simp [hi], hB.snoc (b := z) (by rw [hi]; exact hz) (Int.emod_nonneg _ (by omega)) (Int.emod_lt_of_pos _ z0)⟩⟩
        refine seq (by simp [z0]; exact ⟨hlim, rfl⟩) ?_
        simp [z0]
        omega)
    obtain ⟨c, s7, ds, rfl, hi, hB⟩ := h2
    refine ⟨ds, seq (by simp [cell_ok] <;> rfl) (seq (by simpa using hc) (seq (by simp <;> rfl) (seqR (sifT (by simp [hbig]) (seq (by simp <;> rfl) (seq h1 (by simp))))))), by simpa using hi, hB⟩
  · obtain ⟨en', h1, h2⟩ := sfor (fi := iR1 (aCons (dCB gLen (aCons (dVar 2) aNil)) aNil)) (gd := gSet 6) (g := sSeq (sSet 5 (d2 gMod (d2 gAdd (d2 gAdd (d2 gMulI (dVar 5) (dC (.int 48271))) (dC (.int 11))) (dVar 6)) (dC (.int 2147483647))))
       (sSeq (sSet 5 (d2 gMod (d2 gAdd (d2 gMulI (dVar 5) (dC (.int 69621))) (dC (.int 3))) (dC (.int 2147483647)))) (sApp 4 (d2 gMod (d2 gFdiv (dVar 5) (dC (.int 7))) (d2 gIx (dVar 2) (dVar 6))))))
      (en := [.dat (.lst (ns.map D.int)), .dat (.int k), .dat (.lst (sizes.map D.int)), .dat (.int c0), .own [], .dat (.int ((c0 + 1 + 31 * k) % 2147483647)), .no, .no]) (rngD 0 1 sizes.length) (by
        simp
        omega)
      (fun i en => ∃ (m : Int) (s6 : Sl) (ds : List Int), en = [.dat (.lst (ns.map D.int)), .dat (.int k), .dat (.lst (sizes.map D.int)), .dat (.int c0), .own (ds.map D.int), .dat (.int m), s6, .no] ∧ ds.length = i ∧ Below sizes ds)
      ⟨_, _, [], rfl, rfl, fun i a b h => by simp at h⟩ (fun i d en hd hI => by
        obtain ⟨m, s6, ds, rfl, hi, hB⟩ := hI
        obtain ⟨hlt, rfl⟩ := rngD_get hd
        obtain ⟨z, hz⟩ : ∃ z, sizes[i]? = some z := ⟨_, List.getElem?_eq_getElem hlt⟩
        obtain ⟨z0, z1⟩ := hs z (List.mem_of_getElem? hz)
        have hlim : ds.length ≤ lim := by show ds.length ≤ 1000000; omega
        have e0 : (0 : Int) + (i : Int) * 1 = (i : Int) := by omega
        rw [e0]
        generalize hm1 : ((m * 48271 + 11 + (i : Int)) % 2147483647 * 69621 + 3) % 2147483647 = m1
        refine ⟨_, [.dat (.lst (ns.map D.int)), .dat (.int k), .dat (.lst (sizes.map D.int)), .dat (.int c0), .own ((ds ++ [m1 / 7 % z]).map D.int), .dat (.int m1), .dat (.int i), .no], rfl, .inl ?_, ⟨_, _, ds ++ [m1 / 7 % z], rfl, by simp [hi], hB.snoc (b := z) (by rw [hi]; exact hz) (Int.emod_nonneg _ (by omega)) (Int.emod_lt_of_pos _ z0)⟩⟩
        refine seq (by simp <;> rfl) (seq (by simp <;> rfl) ?_)
        simp [atI_map, hz, z0, hm1]
        exact hlim)
    obtain ⟨m, s6, ds, rfl, hi, hB⟩ := h2
    refine ⟨ds, seq (by simp [cell_ok] <;> rfl) (seq (by simpa using hc) (seq (by simp <;> rfl) (seq (sifF (by simp [hbig]) rfl) (seq (by simp <;> exact ⟨by omega, rfl⟩) (seq h1 (by simp)))))), by simpa [rngD_len] using hi, hB⟩

structure PatOk {α : Type} (cs : List α) (h w : Nat) (p : List (List α)) : Prop where
  rows : p.length = h
  cols : ∀ r ∈ p, r.length = w
  cell : ∀ r ∈ p, ∀ c ∈ r, c ∈ cs
theorem below_at {sizes ds : List Int} (hB : Below sizes ds) (hl : ds.length = sizes.length) {i : Nat} {b : Int} (hb : sizes[i]? = some b) : ∃ a : Nat, ds[i]? = some (a : Int) ∧ (a : Int) < b := by
  have hi : i < ds.length := by rw [hl]; exact (List.getElem?_eq_some_iff.mp hb).1
  obtain ⟨h0, h1⟩ := hB i ds[i] b (List.getElem?_eq_getElem hi) hb
  exact ⟨ds[i].toNat, by rw [List.getElem?_eq_getElem hi]; congr 1; omega, by omega⟩
inductive Cell where
  | pl (a : Nat) | dg (a : Nat) (s : Bool) (b : Nat)
  deriving DecidableEq
def Cell.s : Cell → Str
  | .pl a => ⟨#[a]⟩
  | .dg a s b => ⟨#[a, if s then 92 else 47, b]⟩
def Cell.f1 : Cell → Nat
  | .pl a => a
  | .dg a _ _ => a
def Cell.f2 : Cell → Nat
  | .pl a => a
  | .dg _ _ b => b
def sgn (a : Nat) : Str := ⟨#[a]⟩
def rowC (r : List Cell) : D := .tup (r.map fun c => .str c.s)
def patC (p : List (List Cell)) : D := .tup (p.map rowC)
end C

namespace C
open PySem DD L2
end C

namespace C
open PySem DD L2
theorem lcGo_xs {α : Type} {gd : D → En → Option En} {fe : En → Option D} {en : En} (f k : α → D) : ∀ (xs : List α), (∀ x ∈ xs, ∃ en1, gd (f x) en = some en1 ∧ fe en1 = some (k x)) → lcGo gd fYes fe en (xs.map f) = some (xs.map k)
  | [], _ => rfl
  | x :: r, H => by
    obtain ⟨en1, h1, h2⟩ := H x List.mem_cons_self
    rw [List.map_cons, List.map_cons]
    unfold lcGo
    rw [h1]
    show (fe en1).bind _ = _
    rw [h2]
    show (lcGo gd fYes fe en (r.map f)).map _ = _
    rw [lcGo_xs f k r fun d' hd => H d' (List.mem_cons_of_mem _ hd)] <;> rfl
theorem lLc_xs {α : Type} {fi : En → Option (List D)} {gd : D → En → Option En} {fe : En → Option D} {vs : List Nat} {en : En} (f k : α → D) (xs : List α) (hi : fi en = some (xs.map f)) (hl : xs.length ≤ 1000)
    (H : ∀ x ∈ xs, ∃ en1, gd (f x) (wipeE en vs) = some en1 ∧ fe en1 = some (k x)) : lLc fi gd fYes fe vs en = some (xs.map k) := by
  unfold lLc
  rw [hi]
  show (if (xs.map f).length ≤ lim then _ else _) = _
  rw [if_pos (by rw [List.length_map]; exact Nat.le_trans hl (by decide))]
  exact lcGo_xs f k xs H
abbrev strC (c : Cell) : D := .str c.s
section
variable {α : Type}
structure RectG (h w : Nat) (p : List (List α)) : Prop where
  rows : p.length = h
  cols : ∀ r ∈ p, r.length = w
def widthG : List (List α) → Nat
  | [] => 0
  | r :: _ => r.length
theorem RectG.width {h w : Nat} {p : List (List α)} (R : RectG h w p) (h1 : 1 ≤ h) : widthG p = w := by
  cases p with
  | nil => have := R.rows; simp at this; omega
  | cons r p => exact R.cols r List.mem_cons_self
end
structure Rect (h w : Nat) (p : List (List Cell)) : Prop where
  rows : p.length = h
  cols : ∀ r ∈ p, r.length = w
theorem Rect.g {h w : Nat} {p : List (List Cell)} (R : Rect h w p) : RectG h w p := ⟨R.rows, R.cols⟩
abbrev cz : Cell := .pl 0
theorem Rect.width {h w : Nat} {p : List (List Cell)} (R : Rect h w p) (h1 : 1 ≤ h) : widthG p = w := RectG.width R.g h1
theorem getD_at {α : Type} {l : List α} {i : Nat} {x : α} (h : i < l.length) : l.getD i x = l[i] := by
  rw [List.getD_eq_getElem?_getD, List.getElem?_eq_getElem h] <;> rfl
theorem patC_at {p : List (List Cell)} {i : Nat} (h : i < p.length) : gIx (patC p) (.int i) = some (rowC p[i]) := by
  show atI (p.map rowC) (i : Int) = _
  rw [atI_map, List.getElem?_eq_getElem h] <;> rfl
theorem rowC_at {r : List Cell} {i : Nat} (h : i < r.length) : gIx (rowC r) (.int i) = some (strC r[i]) := by
  show atI (r.map strC) (i : Int) = _
  rw [atI_map, List.getElem?_eq_getElem h] <;> rfl
def SmallC (c : Cell) : Prop := c.f1 < 1000 ∧ c.f2 < 1000
end C

namespace C
open PySem DD L2
def at2 (p : List (List Cell)) (r c : Nat) : Cell := (p.getD r []).getD c (.pl 0)
theorem at2_eq {p : List (List Cell)} {r c : Nat} (hr : r < p.length) (hc : c < p[r].length) : at2 p r c = p[r][c] := by
  unfold at2
  rw [getD_at hr, getD_at hc]
section
variable {p : List (List Cell)}
end
end C

namespace C
open PySem DD L2
theorem cell_s_inj {c d : Cell} (h : c.s = d.s) : c = d := by
  cases c with
  | pl a =>
    cases d with
    | pl b =>
      have h : (⟨#[a]⟩ : Str) = ⟨#[b]⟩ := h
      injection h with h
      injection h with h
      injection h with h
      rw [h]
    | dg x s y =>
      have h : (⟨#[a]⟩ : Str) = ⟨#[x, if s then 92 else 47, y]⟩ := h
      injection h with h
      injection h with h
      injection h with h1 h2
      cases h2
  | dg a s b =>
    cases d with
    | pl x =>
      have h : (⟨#[a, if s then 92 else 47, b]⟩ : Str) = ⟨#[x]⟩ := h
      injection h with h
      injection h with h
      injection h with h1 h2
      cases h2
    | dg x t y =>
      have h : (⟨#[a, if s then 92 else 47, b]⟩ : Str) = ⟨#[x, if t then 92 else 47, y]⟩ := h
      injection h with h
      injection h with h
      injection h with h1 h2
      injection h2 with h3 h4
      injection h4 with h5 h6
      subst h1
      subst h5
      cases s <;> cases t <;> first | rfl | (simp at h3)
theorem eqv_cell (c d : Cell) : PyData.eqv (py (strC c)) (py (strC d)) = decide (c = d) := by
  have e : PyData.eqv (py (strC c)) (py (strC d)) = decide (c.s = d.s) := by
    simp only [py, PyData.eqv]
    by_cases h : c.s = d.s
    · rw [h, decide_eq_true rfl]
      exact beq_self_eq_true _
    · rw [decide_eq_false h]
      exact beq_false_of_ne h
  rw [e]
  by_cases h : c = d
  · rw [h] <;> simp
  · rw [decide_eq_false h, decide_eq_false fun z => h (cell_s_inj z)]
end C

namespace C
open PySem DD L2
section
variable {α : Type} [DecidableEq α] {f : α → PyData} {lt : α → α → Bool}
end
def slN : Cell → Nat
  | .pl _ => 0
  | .dg _ false _ => 1
  | .dg _ true _ => 2
def slS : Cell → Str
  | .pl _ => ""
  | .dg _ false _ => "/"
  | .dg _ true _ => "\\"
def kC (c : Cell) : D := .tup [.str (slS c), .str (sgn c.f1), .str (sgn c.f2)]
def rI (c : Cell) : Int := (slN c : Int)
def r3 : Cell → Str
  | .pl _ => ""
  | .dg _ _ b => sgn b
theorem eqv_ints (x y : Int) : PyData.eqv (.int x) (.int y) = decide (x = y) := by
  simp only [PyData.eqv]
  by_cases h : x = y <;> simp [h]
abbrev pk (c : Cell) : PyData := py (kC c)
end C

namespace C
open PySem DD L2
end C

namespace C
open PySem DD L2
def g_size_of : En → Option Out := (sRet (dTup (aCons (dCB gLen (aCons (dVar 0) aNil)) (aCons (dMaxDef 0 (dL (lLc (iAny (dVar 0)) (gSet 1) fYes (dCB gLen (aCons (dVar 1) aNil)) [1]))) aNil))))
def F_size_of : List D → Option D := runD g_size_of 2 1
theorem gEq_int (x y : Int) : gEq (.int x) (.int y) = some (.bl (decide (x = y))) := by
  unfold gEq
  rw [if_pos ⟨deep_int, deep_int⟩]
  show some (D.bl (PyData.eqv (.int x) (.int y))) = _
  rw [eqv_ints]
def mkS (b : Bool) (ds : List D) : D := if b = true then .tup ds else .lst ds
theorem len_mkS (b : Bool) (ds : List D) : gLen [mkS b ds] = some (.int ds.length) := by cases b <;> rfl
theorem intsOf_map {α : Type} (g : α → Int) : ∀ xs : List α, intsOf (xs.map fun x => D.int (g x)) = some (xs.map g)
  | [] => rfl
  | x :: xs => by
    show (intsOf (xs.map fun x => D.int (g x))).map _ = _
    rw [intsOf_map g xs] <;> rfl
theorem max_same (w : Int) : ∀ (l : List Int), (∀ x ∈ l, x = w) → l.foldl max w = w
  | [], _ => rfl
  | x :: l, h => by
    rw [List.foldl_cons, h x List.mem_cons_self, Int.max_self]
    exact max_same w l fun y hy => h y (List.mem_cons_of_mem _ hy)
theorem maxD_same {w : Int} {l : List Int} (h1 : l ≠ []) (h : ∀ x ∈ l, x = w) : maxD l = w := by
  cases l with
  | nil => exact absurd rfl h1
  | cons x l =>
    show l.foldl max x = w
    rw [h x List.mem_cons_self]
    exact max_same w l fun y hy => h y (List.mem_cons_of_mem _ hy)
theorem any_mkS (b : Bool) {ds : List D} {fa : En → Option D} {en : En} (h : fa en = some (mkS b ds)) : iAny fa en = some ds := by
  unfold iAny
  rw [h]
  cases b <;> rfl
theorem size_of_ok (b : Bool) {h w : Nat} {p : List (List Cell)} (R : Rect h w p) (h1 : 1 ≤ h) (h10 : h ≤ 10) (w10 : w ≤ 10) : F_size_of [mkS b (p.map rowC)] = some (.tup [.int (h : Int), .int (w : Int)]) := by
  refine run_rt rfl ?_
  unfold g_size_of
  have e1 : lLc (iAny (dVar 0)) (gSet 1) fYes (dCB gLen (aCons (dVar 1) aNil)) [1] [.dat (mkS b (p.map rowC)), .no] = some (p.map fun r => D.int (r.length : Int)) := by
    refine lLc_xs rowC (fun r => D.int (r.length : Int)) p (any_mkS b rfl) (by rw [R.rows]; omega) fun r hr => ⟨[.dat (mkS b (p.map rowC)), .dat (rowC r)], rfl, ?_⟩
    show some (D.int ((r.map strC).length : Int)) = _
    rw [List.length_map]
  have e2 : dMaxDef 0 (dL (lLc (iAny (dVar 0)) (gSet 1) fYes (dCB gLen (aCons (dVar 1) aNil)) [1])) [.dat (mkS b (p.map rowC)), .no] = some (.int (w : Int)) := by
    show ((lLc (iAny (dVar 0)) (gSet 1) fYes (dCB gLen (aCons (dVar 1) aNil)) [1] [.dat (mkS b (p.map rowC)), .no]).map D.lst).bind _ = _
    rw [e1]
    show (intsOf (p.map fun r => D.int (r.length : Int))).map _ = _
    rw [intsOf_map fun r : List Cell => (r.length : Int)]
    have hn : (p.map fun r : List Cell => (r.length : Int)) ≠ [] := fun z => by
      have := congrArg List.length z
      rw [List.length_map, R.rows] at this
      simp at this
      omega
    show some (D.int (if (p.map fun r : List Cell => (r.length : Int)) = [] then 0 else maxD (p.map fun r : List Cell => (r.length : Int)))) = _
    rw [if_neg hn, maxD_same hn fun x hx => by
      obtain ⟨r, hr, rfl⟩ := List.mem_map.mp hx
      rw [R.cols r hr]]
  have e3 : dCB gLen (aCons (dVar 0) aNil) [.dat (mkS b (p.map rowC)), .no] = some (.int (h : Int)) := by
    show gLen [mkS b (p.map rowC)] = _
    rw [len_mkS, List.length_map, R.rows]
  show (((dCB gLen (aCons (dVar 0) aNil) [.dat (mkS b (p.map rowC)), .no]).bind fun x => ((dMaxDef 0 (dL (lLc (iAny (dVar 0)) (gSet 1) fYes (dCB gLen (aCons (dVar 1) aNil)) [1])) [.dat (mkS b (p.map rowC)), .no]).bind fun y => some [y]).map (x :: ·)).bind fun ds => if ds.length ≤ lim then some (D.tup ds) else none).map Out.rt = _
  rw [e3, e2] <;> rfl
section
variable {α β : Type}
def gridF (h w : Nat) (f : Nat → Nat → α) : List (List α) := (List.range h).map fun x => (List.range w).map fun y => f x y
theorem gridF_ext {h w : Nat} {f g : Nat → Nat → α} (H : ∀ x y, x < h → y < w → f x y = g x y) : gridF h w f = gridF h w g :=
  List.map_congr_left fun x hx => List.map_congr_left fun y hy => H x y (List.mem_range.mp hx) (List.mem_range.mp hy)
theorem row_of (z : α) (r : List α) : r = (List.range r.length).map fun y => r.getD y z := by
  refine List.ext_getElem (by rw [List.length_map, List.length_range]) fun i h1 h2 => ?_
  rw [List.getElem_map, List.getElem_range, C.getD_at h1]
theorem gridF_of {h w : Nat} {p : List (List α)} (z : α) (R : RectG h w p) : p = gridF h w fun x y => (p.getD x []).getD y z := by
  unfold gridF
  refine List.ext_getElem (by rw [List.length_map, List.length_range, R.rows]) fun i h1 h2 => ?_
  rw [List.getElem_map, List.getElem_range]
  show p[i] = (List.range w).map fun y => (p.getD i []).getD y z
  rw [C.getD_at h1]
  have hw := R.cols _ (List.getElem_mem h1)
  conv => lhs; rw [row_of z p[i]]
  rw [hw]
end
abbrev Ent := Nat × Nat
abbrev ez : Ent := (0, 0)
structure SqM (s R C : Nat) (M : List (List (List (List Cell)))) : Prop where
  rect : RectG R C M
  sq : ∀ r ∈ M, ∀ p ∈ r, Rect s s p
theorem SqM.fn {s R C : Nat} {M : List (List (List (List Cell)))} (k : SqM s R C M) : ∃ f : Nat → Nat → Nat → Nat → Cell, M = gridF R C fun i j => gridF s s (f i j) := by
  refine ⟨fun i j a b => at2 ((M.getD i []).getD j []) a b, ?_⟩
  conv => lhs; rw [gridF_of [] k.rect]
  refine gridF_ext fun i j hi hj => ?_
  have h1 : i < M.length := by rw [k.rect.rows]; exact hi
  have h2 : j < M[i].length := by rw [k.rect.cols _ (List.getElem_mem h1)]; exact hj
  have e : (M.getD i []).getD j [] = M[i][j] := by rw [_root_.C.getD_at h1, _root_.C.getD_at h2]
  show _ = gridF s s fun a b => at2 ((M.getD i []).getD j []) a b
  rw [e]
  exact gridF_of cz (k.sq _ (List.getElem_mem h1) _ (List.getElem_mem h2)).g
end C

namespace C
open PySem DD L2
structure Rc where
  t : Nat
  l : Nat
  h : Nat
  w : Nat
def rcD (r : Rc) : D := .tup [.int (r.t : Int), .int (r.l : Int), .int (r.h : Int), .int (r.w : Int)]
def inR (x y : Nat) (r : Rc) : Bool := decide (r.t ≤ x ∧ x < r.t + r.h ∧ r.l ≤ y ∧ y < r.l + r.w)
structure Tile (H W : Nat) (ps : List Rc) : Prop where
  pos : ∀ r ∈ ps, 1 ≤ r.h ∧ 1 ≤ r.w ∧ r.t + r.h ≤ H ∧ r.l + r.w ≤ W
  one : ∀ x y, x < H → y < W → ps.countP (inR x y) = 1
theorem countP_one (p : Rc → Bool) (r : Rc) : [r].countP p = if p r = true then 1 else 0 := by
  rw [List.countP_cons, List.countP_nil, Nat.zero_add]
theorem Tile.cut {H W : Nat} {A Z B : List Rc} {r a b : Rc} (k : Tile H W (A ++ r :: Z)) (hp : B.Perm (a :: b :: (A ++ Z))) (ha : 1 ≤ a.h ∧ 1 ≤ a.w ∧ a.t + a.h ≤ H ∧ a.l + a.w ≤ W) (hb : 1 ≤ b.h ∧ 1 ≤ b.w ∧ b.t + b.h ≤ H ∧ b.l + b.w ≤ W)
    (hc : ∀ x y, (if inR x y a = true then 1 else 0) + (if inR x y b = true then 1 else 0) = if inR x y r = true then 1 else 0) : Tile H W B := by
  refine ⟨fun q hq => ?_, fun x y hx hy => ?_⟩
  · rcases List.mem_cons.mp (hp.mem_iff.mp hq) with rfl | hq
    · exact ha
    · rcases List.mem_cons.mp hq with rfl | hq
      · exact hb
      · rcases List.mem_append.mp hq with hq | hq
        · exact k.pos q (List.mem_append_left _ hq)
        · exact k.pos q (List.mem_append_right _ (List.mem_cons_of_mem _ hq))
  · have h1 := k.one x y hx hy
    rw [List.countP_append, List.countP_cons] at h1
    rw [hp.countP_eq, List.countP_cons, List.countP_cons, List.countP_append]
    have h2 := hc x y
    omega
theorem Tile.cutV {H W : Nat} {A Z B : List Rc} {r : Rc} {c : Nat} (k : Tile H W (A ++ r :: Z)) (c1 : 1 ≤ c) (c2 : c < r.h) (hp : B.Perm (⟨r.t, r.l, c, r.w⟩ :: ⟨r.t + c, r.l, r.h - c, r.w⟩ :: (A ++ Z))) : Tile H W B := by
  obtain ⟨p1, p2, p3, p4⟩ := k.pos r (List.mem_append_right _ List.mem_cons_self)
  refine k.cut hp ⟨c1, p2, by show r.t + c ≤ H; omega, p4⟩ ⟨by show 1 ≤ r.h - c; omega, p2, by show r.t + c + (r.h - c) ≤ H; omega, p4⟩ fun x y => ?_
  unfold inR
  simp only [decide_eq_true_eq]
  split <;> split <;> split <;> omega
abbrev gV : En → Option Out := (sSeq (sSet 13 (d2 gAdd (dC (.int 1)) (d2 gMod (d2 gIx (dVar 7) (dC (.int 2))) (d2 gSub (dVar 11) (dC (.int 1))))))
 (sSet 3 (dL (lCat (lCat (lCutL (dVar 3) oNo (oInt (dVar 8))) (lLst (aCons (dTup (aCons (dVar 9) (aCons (dVar 10) (aCons (dVar 13) (aCons (dVar 12) aNil))))) (aCons (dTup (aCons (d2 gAdd (dVar 9) (dVar 13)) (aCons (dVar 10) (aCons (d2 gSub (dVar 11) (dVar 13)) (aCons (dVar 12) aNil))))) aNil)))) (lCutL (dVar 3) (oInt (d2 gAdd (dVar 8) (dC (.int 1)))) oNo)))))
end C

namespace DD
open PySem L2
section
variable {en en' : En} {i j : Nat} {d x y z : D} {ds ds' : List D} {f fa fb fc : En → Option D} {g g' : En → Option (List D)} {ft fu : En → Option Bool} {a b : Bool}
theorem lim_of {n : Nat} (h : n ≤ 1000) : n ≤ lim := Nat.le_trans h (by decide)
theorem set_of (h : f en = some d) : sSet i f en = some (.nx (en.set i (.dat d))) := by
  show (f en).map _ = _
  rw [h] <;> rfl
theorem ret_of (h : f en = some d) : sRet f en = some (.rt d) := by
  show (f en).map _ = _
  rw [h] <;> rfl
theorem asg_of {gd : D → En → Option En} (h : f en = some d) (h' : gd d en = some en') : sAsgG f gd en = some (.nx en') := by
  show (f en).bind _ = _
  rw [h]
  show (gd d en).map _ = _
  rw [h'] <;> rfl
theorem dL_of (h : g en = some ds) : dL g en = some (.lst ds) := by
  show (g en).map _ = _
  rw [h] <;> rfl
theorem a_cons (h : f en = some d) (h' : g en = some ds) : aCons f g en = some (d :: ds) := by
  show (f en).bind _ = _
  rw [h]
  show (g en).map _ = _
  rw [h'] <;> rfl
theorem a_nil : aNil en = some [] := rfl
theorem a_one (h : f en = some d) : aCons f aNil en = some [d] := a_cons h a_nil
theorem a_two (h : fa en = some x) (h' : fb en = some y) : aCons fa (aCons fb aNil) en = some [x, y] := a_cons h (a_one h')
theorem tup_of (h : g en = some ds) (hl : ds.length ≤ lim := by exact Nat.le_of_ble_eq_true rfl) : dTup g en = some (.tup ds) := by
  show (g en).bind _ = _
  rw [h]
  exact if_pos hl
theorem call_of {F : List D → Option D} (h : g en = some ds) (hF : F ds = some d) : dCall F g en = some d := by
  show (g en).bind _ = _
  rw [h]
  exact hF
theorem cb_of {F : List D → Option D} (h : g en = some ds) (hF : F ds = some d) : dCB F g en = some d := by
  show (g en).bind _ = _
  rw [h]
  exact hF
theorem d2_of {o : D → D → Option D} (h : fa en = some x) (h' : fb en = some y) (ho : o x y = some d) : d2 o fa fb en = some d := by
  show (fa en).bind _ = _
  rw [h]
  show (fb en).bind _ = _
  rw [h']
  exact ho
theorem bl_of (h : f en = some (.bl b)) : tBl f en = some b := by
  show (f en).bind _ = _
  rw [h] <;> rfl
theorem not_of (h : ft en = some b) : tNot1 ft en = some (!b) := by
  show (ft en).map _ = _
  rw [h] <;> rfl
theorem dand_of (h : fa en = some (.bl a)) (h' : fb en = some (.bl b)) : dAnd2 fa fb en = some (.bl (a && b)) := by
  show (tBl fa en).bind _ = _
  rw [bl_of h]
  cases a
  · rfl
  · exact h'
theorem dor_of (h : fa en = some (.bl a)) (h' : fb en = some (.bl b)) : dOr2 fa fb en = some (.bl (a || b)) := by
  show (tBl fa en).bind _ = _
  rw [bl_of h]
  cases a
  · exact h'
  · rfl
theorem scal_of (h : f (en.map Sl.thaw) = some d) (hf : d.flat = true) : dScal f en = some d := by
  show (f (en.map Sl.thaw)).bind _ = _
  rw [h]
  exact if_pos hf
theorem any_lst (h : f en = some (.lst ds)) : iAny f en = some ds := by
  show (f en).bind _ = _
  rw [h] <;> rfl
end

section
variable {α : Type} {fi : En → Option (List D)} {gd : D → En → Option En} {ft : En → Option Bool} {fe : En → Option D} {vs : List Nat} {en : En}
theorem lcGo_of (e h : α → D) (p : α → Bool) : ∀ xs : List α, (∀ x ∈ xs, ∃ en1, gd (e x) en = some en1 ∧ ft en1 = some (p x) ∧ (p x = true → fe en1 = some (h x))) → lcGo gd ft fe en (xs.map e) = some ((xs.filter p).map h)
  | [], _ => rfl
  | x :: xs, H => by
    obtain ⟨en1, h1, h2, h3⟩ := H x List.mem_cons_self
    have ih := lcGo_of e h p xs fun y hy => H y (List.mem_cons_of_mem _ hy)
    show (gd (e x) en).bind _ = _
    rw [h1]
    show (ft en1).bind _ = _
    rw [h2, List.filter_cons]
    cases hp : p x with
    | true =>
      rw [if_pos rfl]
      show ((fe en1).bind fun y => (lcGo gd ft fe en (xs.map e)).map fun ys => y :: ys) = _
      rw [h3 hp]
      show (lcGo gd ft fe en (xs.map e)).map _ = _
      rw [ih] <;> rfl
    | false =>
      rw [if_neg Bool.false_ne_true]
      exact ih
theorem lc_of (xs : List α) (e h : α → D) (p : α → Bool) (hi : fi en = some (xs.map e)) (hl : xs.length ≤ 1000) (H : ∀ x ∈ xs, ∃ en1, gd (e x) (wipeE en vs) = some en1 ∧ ft en1 = some (p x) ∧ (p x = true → fe en1 = some (h x))) :
    lLc fi gd ft fe vs en = some ((xs.filter p).map h) := by
  show (fi en).bind _ = _
  rw [hi]
  show (if (xs.map e).length ≤ lim then _ else none) = _
  rw [if_pos (by rw [List.length_map]; exact lim_of hl)]
  exact lcGo_of e h p xs H
theorem lc_all (xs : List α) (e h : α → D) (hi : fi en = some (xs.map e)) (hl : xs.length ≤ 1000) (H : ∀ x ∈ xs, ∃ en1, gd (e x) (wipeE en vs) = some en1 ∧ fe en1 = some (h x)) : lLc fi gd fYes fe vs en = some (xs.map h) := by
  have q := lc_of (ft := fYes) xs e h (fun _ => true) hi hl fun x hx => by
    obtain ⟨en1, h1, h2⟩ := H x hx
    exact ⟨en1, h1, rfl, fun _ => h2⟩
  rw [List.filter_eq_self.mpr (fun _ _ => rfl)] at q
  exact q
end

section
variable {α : Type} {fi : En → Option (List D)} {gd : D → En → Option En} {g : En → Option Out} {en : En}
theorem for_of (xs : List α) (e : α → D) (hi : fi en = some (xs.map e)) (I : Nat → En → Prop) (h0 : I 0 en)
    (h : ∀ (i : Nat) (x : α) (en : En), xs[i]? = some x → I i en → ∃ en1 en2, gd (e x) en = some en1 ∧ (g en1 = some (.nx en2) ∨ g en1 = some (.ct en2)) ∧ I (i + 1) en2) : ∃ en', sFor fi gd g en = some (.nx en') ∧ I xs.length en' := by
  obtain ⟨en', h1, h2⟩ := sfor (g := g) (gd := gd) (xs.map e) hi I h0 fun i d en1 hd hI => by
    rw [List.getElem?_map] at hd
    obtain ⟨x, hx, rfl⟩ := omap hd
    exact h i x en1 hx hI
  rw [List.length_map] at h2
  exact ⟨en', h1, h2⟩
end
theorem ints_map {α : Type} (h : α → Int) : ∀ xs : List α, intsOf (xs.map fun x => D.int (h x)) = some (xs.map h)
  | [] => rfl
  | x :: xs => by
    show (intsOf (xs.map fun x => D.int (h x))).map _ = _
    rw [ints_map h xs] <;> rfl
theorem bools_map {α : Type} (h : α → Bool) : ∀ xs : List α, boolsOf (xs.map fun x => D.bl (h x)) = some (xs.map h)
  | [] => rfl
  | x :: xs => by
    show (boolsOf (xs.map fun x => D.bl (h x))).map _ = _
    rw [bools_map h xs] <;> rfl
theorem all_map {α : Type} (h : α → Bool) (xs : List α) : gAll [.lst (xs.map fun x => D.bl (h x))] = some (.bl (xs.all h)) := by
  show (boolsOf _).map _ = _
  rw [bools_map h xs]
  show some (D.bl ((xs.map h).all id)) = _
  rw [List.all_map] <;> rfl
theorem len_tup (ds : List D) : gLen [.tup ds] = some (.int (ds.length : Int)) := rfl
theorem eq_ints (x y : Int) : gEq (.int x) (.int y) = some (.bl (decide (x = y))) := by
  unfold gEq
  rw [if_pos ⟨deep_int, deep_int⟩]
  simp only [py, PyData.eqv]
  congr 2
theorem ne_ints (x y : Int) : gNe (.int x) (.int y) = some (.bl (!decide (x = y))) := by
  unfold gNe
  rw [if_pos ⟨deep_int, deep_int⟩]
  simp only [py, PyData.eqv]
  congr 2
theorem mem_at {α : Type} {xs : List α} {i : Nat} {x : α} (h : xs[i]? = some x) : x ∈ xs := List.mem_of_getElem? h
end DD

namespace C
open DD
structure TileR (R : Rc) (ps : List Rc) : Prop where
  ins : ∀ r ∈ ps, 1 ≤ r.h ∧ 1 ≤ r.w ∧ R.t ≤ r.t ∧ r.t + r.h ≤ R.t + R.h ∧ R.l ≤ r.l ∧ r.l + r.w ≤ R.l + R.w
  one : ∀ x y, inR x y R = true → ps.countP (inR x y) = 1
def st (v : Bool) (r : Rc) : Nat := if v = true then r.l else r.t
def ed (v : Bool) (r : Rc) : Nat := if v = true then r.l + r.w else r.t + r.h
def fs (v : Bool) (p : Nat) (ps : List Rc) : List Rc := ps.filter fun r => decide (st v r < p)
def sn (v : Bool) (p : Nat) (ps : List Rc) : List Rc := ps.filter fun r => decide (p ≤ st v r)
def unc (v : Bool) (p : Nat) (ps : List Rc) : Bool := ps.all fun r => decide (ed v r ≤ p ∨ p ≤ st v r)
def cutA (v : Bool) (p : Nat) (R : Rc) : Rc := if v = true then ⟨R.t, R.l, R.h, p - R.l⟩ else ⟨R.t, R.l, p - R.t, R.w⟩
def cutB (v : Bool) (p : Nat) (R : Rc) : Rc := if v = true then ⟨R.t, p, R.h, R.l + R.w - p⟩ else ⟨p, R.l, R.t + R.h - p, R.w⟩
structure Seam (v : Bool) (p : Nat) (R : Rc) (ps : List Rc) : Prop where
  lo : st v R < p
  hi : p < ed v R
  un : ∀ r ∈ ps, ed v r ≤ p ∨ p ≤ st v r
theorem unc_iff {v : Bool} {p : Nat} {ps : List Rc} : unc v p ps = true ↔ ∀ r ∈ ps, ed v r ≤ p ∨ p ≤ st v r := by
  unfold unc
  rw [List.all_eq_true]
  exact ⟨fun h r hr => of_decide_eq_true (h r hr), fun h r hr => decide_eq_true (h r hr)⟩
theorem mem_fs {v : Bool} {p : Nat} {ps : List Rc} {r : Rc} : r ∈ fs v p ps ↔ r ∈ ps ∧ st v r < p := by
  unfold fs
  rw [List.mem_filter, decide_eq_true_eq]
theorem mem_sn {v : Bool} {p : Nat} {ps : List Rc} {r : Rc} : r ∈ sn v p ps ↔ r ∈ ps ∧ p ≤ st v r := by
  unfold sn
  rw [List.mem_filter, decide_eq_true_eq]
section
variable {R : Rc} {ps : List Rc} {v : Bool} {p : Nat}
theorem TileR.perm (k : TileR R ps) {qs : List Rc} (h : qs.Perm ps) : TileR R qs :=
  ⟨fun r hr => k.ins r (h.mem_iff.mp hr), fun x y hx => (h.countP_eq _).trans (k.one x y hx)⟩
theorem TileR.at (k : TileR R ps) {x y : Nat} (h : inR x y R = true) : ∃ r ∈ ps, inR x y r = true := by
  have := k.one x y h
  exact List.countP_pos_iff.mp (by omega)
theorem countP_two : ∀ {ps : List Rc} {P : Rc → Bool} {i j : Nat} {a b : Rc}, i < j → ps[i]? = some a → ps[j]? = some b → P a = true → P b = true → 2 ≤ ps.countP P
  | [], _, _, _, _, _, _, h, _, _, _ => by simp at h
  | r :: ps, P, 0, j + 1, a, b, _, h, h', ha, hb => by
    have h : r = a := by simpa using h
    subst h
    rw [List.countP_cons_of_pos ha]
    have : 0 < ps.countP P := List.countP_pos_iff.mpr ⟨b, List.mem_of_getElem? (by simpa using h'), hb⟩
    omega
  | r :: ps, P, i + 1, j + 1, a, b, hij, h, h', ha, hb => by
    have ih := countP_two (ps := ps) (P := P) (i := i) (j := j) (by omega) (by simpa using h) (by simpa using h') ha hb
    rw [List.countP_cons]
    omega
theorem TileR.apart (k : TileR R ps) {i j : Nat} {a b : Rc} {x y : Nat} (hi : ps[i]? = some a) (hj : ps[j]? = some b) (ha : inR x y a = true) (hb : inR x y b = true) : i = j := by
  have am := k.ins a (List.mem_of_getElem? hi)
  have hR : inR x y R = true := by
    unfold inR at ha ⊢
    rw [decide_eq_true_eq] at ha ⊢
    omega
  have h1 := k.one x y hR
  rcases Nat.lt_trichotomy i j with h | h | h
  · have := countP_two h hi hj ha hb
    omega
  · exact h
  · have := countP_two h hj hi hb ha
    omega
theorem TileR.whole (h1 : 1 ≤ R.h) (w1 : 1 ≤ R.w) : TileR R [R] :=
  ⟨fun r hr => by rw [List.mem_singleton.mp hr]; omega, fun x y h => by rw [countP_one, if_pos h]⟩
theorem TileR.ne (k : TileR R ps) (h1 : 1 ≤ R.h) (w1 : 1 ≤ R.w) : 1 ≤ ps.length := by
  obtain ⟨r, hr, _⟩ := k.at (x := R.t) (y := R.l) (by unfold inR; rw [decide_eq_true_eq]; omega)
  cases ps with
  | nil => cases hr
  | cons a ps => rw [List.length_cons]; omega
theorem TileR.st_ed (k : TileR R ps) {r : Rc} (hr : r ∈ ps) : st v R ≤ st v r ∧ st v r < ed v r ∧ ed v r ≤ ed v R := by
  obtain ⟨h1, h2, h3, h4, h5, h6⟩ := k.ins r hr
  cases v
  · show R.t ≤ r.t ∧ r.t < r.t + r.h ∧ r.t + r.h ≤ R.t + R.h
    omega
  · show R.l ≤ r.l ∧ r.l < r.l + r.w ∧ r.l + r.w ≤ R.l + R.w
    omega
theorem TileR.on (k : TileR R ps) (h1 : 1 ≤ R.h) (w1 : 1 ≤ R.w) {q : Nat} (lo : st v R ≤ q) (hi : q < ed v R) : ∃ r ∈ ps, st v r ≤ q ∧ q < ed v r := by
  cases v
  · have lo : R.t ≤ q := lo
    have hi : q < R.t + R.h := hi
    obtain ⟨r, hr, hc⟩ := k.at (x := q) (y := R.l) (by unfold inR; rw [decide_eq_true_eq]; omega)
    unfold inR at hc
    rw [decide_eq_true_eq] at hc
    exact ⟨r, hr, hc.1, hc.2.1⟩
  · have lo : R.l ≤ q := lo
    have hi : q < R.l + R.w := hi
    obtain ⟨r, hr, hc⟩ := k.at (x := R.t) (y := q) (by unfold inR; rw [decide_eq_true_eq]; omega)
    unfold inR at hc
    rw [decide_eq_true_eq] at hc
    exact ⟨r, hr, hc.2.2.1, hc.2.2.2⟩
theorem Seam.start (s : Seam v p R ps) (k : TileR R ps) (h1 : 1 ≤ R.h) (w1 : 1 ≤ R.w) : ∃ r ∈ ps, st v r = p := by
  obtain ⟨r, hr, a, b⟩ := k.on h1 w1 (Nat.le_of_lt s.lo) s.hi
  rcases s.un r hr with h | h
  · omega
  · exact ⟨r, hr, by omega⟩
theorem cutA_pos (h1 : 1 ≤ R.h) (w1 : 1 ≤ R.w) (lo : st v R < p) (hi : p < ed v R) : 1 ≤ (cutA v p R).h ∧ 1 ≤ (cutA v p R).w := by
  cases v
  · have lo : R.t < p := lo
    exact ⟨by show 1 ≤ p - R.t; omega, w1⟩
  · have lo : R.l < p := lo
    exact ⟨h1, by show 1 ≤ p - R.l; omega⟩
theorem cutB_pos (h1 : 1 ≤ R.h) (w1 : 1 ≤ R.w) (lo : st v R < p) (hi : p < ed v R) : 1 ≤ (cutB v p R).h ∧ 1 ≤ (cutB v p R).w := by
  cases v
  · have hi : p < R.t + R.h := hi
    exact ⟨by show 1 ≤ R.t + R.h - p; omega, w1⟩
  · have hi : p < R.l + R.w := hi
    exact ⟨h1, by show 1 ≤ R.l + R.w - p; omega⟩
theorem Seam.tileA (s : Seam v p R ps) (k : TileR R ps) : TileR (cutA v p R) (fs v p ps) := by
  refine ⟨fun r hr => ?_, fun x y hx => ?_⟩
  · obtain ⟨hr, hp⟩ := mem_fs.mp hr
    obtain ⟨h1, h2, h3, h4, h5, h6⟩ := k.ins r hr
    have lo := s.lo
    rcases s.un r hr with h | h
    · cases v
      · have h : r.t + r.h ≤ p := h
        have lo : R.t < p := lo
        refine ⟨h1, h2, h3, ?_, h5, h6⟩
        show r.t + r.h ≤ R.t + (p - R.t)
        omega
      · have h : r.l + r.w ≤ p := h
        have lo : R.l < p := lo
        refine ⟨h1, h2, h3, h4, h5, ?_⟩
        show r.l + r.w ≤ R.l + (p - R.l)
        omega
    · omega
  · have hi := s.hi
    have hR : inR x y R = true ∧ ∀ r : Rc, inR x y r = true → st v r < p := by
      cases v
      · have hi : p < R.t + R.h := hi
        have hx : inR x y ⟨R.t, R.l, p - R.t, R.w⟩ = true := hx
        unfold inR at hx ⊢
        simp only [decide_eq_true_eq] at hx ⊢
        exact ⟨by omega, fun r hr => by show r.t < p; omega⟩
      · have hi : p < R.l + R.w := hi
        have hx : inR x y ⟨R.t, R.l, R.h, p - R.l⟩ = true := hx
        unfold inR at hx ⊢
        simp only [decide_eq_true_eq] at hx ⊢
        exact ⟨by omega, fun r hr => by show r.l < p; omega⟩
    rw [← k.one x y hR.1]
    unfold fs
    rw [List.countP_filter]
    refine List.countP_congr fun r hr => ?_
    rw [Bool.and_eq_true, decide_eq_true_eq]
    exact ⟨fun h => h.1, fun h => ⟨h, hR.2 r h⟩⟩
theorem Seam.tileB (s : Seam v p R ps) (k : TileR R ps) : TileR (cutB v p R) (sn v p ps) := by
  refine ⟨fun r hr => ?_, fun x y hx => ?_⟩
  · obtain ⟨hr, hp⟩ := mem_sn.mp hr
    obtain ⟨h1, h2, h3, h4, h5, h6⟩ := k.ins r hr
    have hi := s.hi
    cases v
    · have hp : p ≤ r.t := hp
      have hi : p < R.t + R.h := hi
      refine ⟨h1, h2, hp, ?_, h5, h6⟩
      show r.t + r.h ≤ p + (R.t + R.h - p)
      omega
    · have hp : p ≤ r.l := hp
      have hi : p < R.l + R.w := hi
      refine ⟨h1, h2, h3, h4, hp, ?_⟩
      show r.l + r.w ≤ p + (R.l + R.w - p)
      omega
  · have lo := s.lo
    have hR : inR x y R = true ∧ ∀ r ∈ ps, inR x y r = true → p ≤ st v r := by
      cases v
      · have lo : R.t < p := lo
        have hx : inR x y ⟨p, R.l, R.t + R.h - p, R.w⟩ = true := hx
        unfold inR at hx ⊢
        simp only [decide_eq_true_eq] at hx ⊢
        refine ⟨by omega, fun r hr h => ?_⟩
        have q : r.t + r.h ≤ p ∨ p ≤ r.t := s.un r hr
        show p ≤ r.t
        omega
      · have lo : R.l < p := lo
        have hx : inR x y ⟨R.t, p, R.h, R.l + R.w - p⟩ = true := hx
        unfold inR at hx ⊢
        simp only [decide_eq_true_eq] at hx ⊢
        refine ⟨by omega, fun r hr h => ?_⟩
        have q : r.l + r.w ≤ p ∨ p ≤ r.l := s.un r hr
        show p ≤ r.l
        omega
    rw [← k.one x y hR.1]
    unfold sn
    rw [List.countP_filter]
    refine List.countP_congr fun r hr => ?_
    rw [Bool.and_eq_true, decide_eq_true_eq]
    exact ⟨fun h => h.1, fun h => ⟨h, hR.2 r hr h⟩⟩
theorem parts_len : (fs v p ps).length + (sn v p ps).length = ps.length := by
  unfold fs sn
  induction ps with
  | nil => rfl
  | cons r ps ih =>
    rw [List.filter_cons, List.filter_cons, List.length_cons]
    by_cases h : st v r < p
    · rw [if_pos (decide_eq_true h), if_neg (by rw [decide_eq_true_eq]; omega), List.length_cons]
      omega
    · rw [if_neg (by rw [decide_eq_true_eq]; exact h), if_pos (decide_eq_true (by omega)), List.length_cons]
      omega
theorem Seam.two (s : Seam v p R ps) (k : TileR R ps) (h1 : 1 ≤ R.h) (w1 : 1 ≤ R.w) : 1 ≤ (fs v p ps).length ∧ 1 ≤ (sn v p ps).length := by
  have a := cutA_pos h1 w1 s.lo s.hi
  have b := cutB_pos h1 w1 s.lo s.hi
  exact ⟨(s.tileA k).ne a.1 a.2, (s.tileB k).ne b.1 b.2⟩

def posN (v : Bool) (R : Rc) (ps : List Rc) : List Nat := ((List.range (ed v R - (st v R + 1))).map fun i => st v R + 1 + i).filter fun p => unc v p ps
def seams (R : Rc) (ps : List Rc) : List (Bool × Nat) := (posN true R ps).map (fun p => (true, p)) ++ (posN false R ps).map (fun p => (false, p))
theorem mem_pos : p ∈ posN v R ps ↔ Seam v p R ps := by
  unfold posN
  rw [List.mem_filter, List.mem_map, unc_iff]
  refine ⟨fun ⟨⟨i, hi, e⟩, h⟩ => ?_, fun s => ⟨⟨p - (st v R + 1), List.mem_range.mpr ?_, ?_⟩, s.un⟩⟩
  · rw [List.mem_range] at hi
    subst e
    exact ⟨by omega, by omega, h⟩
  · have := s.lo
    have := s.hi
    omega
  · have := s.lo
    omega
theorem mem_seams {z : Bool × Nat} : z ∈ seams R ps ↔ Seam z.1 z.2 R ps := by
  unfold seams
  rw [List.mem_append, List.mem_map, List.mem_map]
  obtain ⟨v, p⟩ := z
  refine ⟨fun h => ?_, fun h => ?_⟩
  · rcases h with ⟨q, h, e⟩ | ⟨q, h, e⟩ <;> cases e <;> exact mem_pos.mp h
  · cases v
    · exact .inr ⟨p, mem_pos.mpr h, rfl⟩
    · exact .inl ⟨p, mem_pos.mpr h, rfl⟩
inductive Sew : Rc → List Rc → Prop
  | one {R : Rc} {ps : List Rc} : ps.length = 1 → Sew R ps
  | cut {R : Rc} {ps : List Rc} {v : Bool} {p : Nat} : Seam v p R ps → Sew (cutA v p R) (fs v p ps) → Sew (cutB v p R) (sn v p ps) → Sew R ps
theorem Rc.ext {a b : Rc} (h1 : a.t = b.t) (h2 : a.l = b.l) (h3 : a.h = b.h) (h4 : a.w = b.w) : a = b := by
  cases a; cases b
  cases h1; cases h2; cases h3; cases h4
  rfl
theorem Seam.sub (s : Seam v p R ps) {qs : List Rc} {S : Rc} (hq : ∀ r ∈ qs, r ∈ ps) (lo : st v S < p) (hi : p < ed v S) : Seam v p S qs := ⟨lo, hi, fun r hr => s.un r (hq r hr)⟩
theorem cutA_st : st v (cutA v p R) = st v R := by cases v <;> rfl
theorem cutB_st : st v (cutB v p R) = p := by cases v <;> rfl
theorem cutA_ed (h : st v R ≤ p) : ed v (cutA v p R) = p := by
  cases v
  · have h : R.t ≤ p := h
    show R.t + (p - R.t) = p
    omega
  · have h : R.l ≤ p := h
    show R.l + (p - R.l) = p
    omega
theorem cutB_ed (h : p ≤ ed v R) : ed v (cutB v p R) = ed v R := by
  cases v
  · have h : p ≤ R.t + R.h := h
    show p + (R.t + R.h - p) = R.t + R.h
    omega
  · have h : p ≤ R.l + R.w := h
    show p + (R.l + R.w - p) = R.l + R.w
    omega
theorem cut_other {u : Bool} (h : u ≠ v) : st u (cutA v p R) = st u R ∧ ed u (cutA v p R) = ed u R ∧ st u (cutB v p R) = st u R ∧ ed u (cutB v p R) = ed u R := by
  cases u <;> cases v <;> first | exact absurd rfl h | exact ⟨rfl, rfl, rfl, rfl⟩
end
end C

namespace C
open PySem DD L2
theorem cast_add (a b : Nat) : D.int ((a : Int) + (b : Int)) = D.int ((a + b : Nat) : Int) := by
  congr 1
def psD (ps : List Rc) : D := .tup (ps.map rcD)
def natD (p : Nat) : D := .int (p : Int)
def whereP {α : Type} (P : α → Bool) (xs : List α) : List Nat := (xs.zipIdx.filter fun q => P q.1).map (·.2)
def rc0 : Rc := ⟨0, 0, 0, 0⟩
end C

namespace C
open PySem DD L2
def sqD : Bool → List Rc → D
  | true, ps => .tup (ps.map rcD)
  | false, ps => .lst (ps.map rcD)
theorem sq_items (b : Bool) (ps : List Rc) : itemsOf (sqD b ps) = some (ps.map rcD) := by cases b <;> rfl
theorem range_nat {lo hi : Nat} {fr : En → Option (List D)} {en : En} (h : fr en = some [natD lo, natD hi]) (h1 : lo ≤ 1000) (h2 : hi ≤ 1000) : iR2 fr en = some (((List.range (hi - lo)).map fun i => lo + i).map natD) := by
  show (fr en).bind _ = _
  rw [h]
  show (if (lo : Int).natAbs ≤ 100000 ∧ (hi : Int).natAbs ≤ 100000 then some (rngD (lo : Int) 1 ((hi : Int) - (lo : Int)).toNat) else none) = _
  rw [if_pos ⟨by omega, by omega⟩]
  unfold rngD
  rw [show ((hi : Int) - (lo : Int)).toNat = hi - lo by omega, List.map_map]
  congr 1
  refine List.map_congr_left fun i _ => ?_
  show D.int ((lo : Int) + (i : Int) * 1) = D.int ((lo + i : Nat) : Int)
  congr 1
  omega
theorem range0_nat {hi : Nat} {fr : En → Option (List D)} {en : En} (h : fr en = some [natD hi]) (h2 : hi ≤ 1000) : iR1 fr en = some ((List.range hi).map natD) := by
  show (fr en).bind _ = _
  rw [h]
  show (if (hi : Int).natAbs ≤ 100000 then some (rngD 0 1 (hi : Int).toNat) else none) = _
  rw [if_pos (by omega)]
  unfold rngD
  rw [show (hi : Int).toNat = hi by omega]
  congr 1
  refine List.map_congr_left fun i _ => ?_
  show D.int (0 + (i : Int) * 1) = D.int (i : Int)
  congr 1
  omega
theorem take_snoc {α : Type} {xs : List α} {i : Nat} {x : α} (h : xs[i]? = some x) : xs.take (i + 1) = xs.take i ++ [x] := by
  rw [List.take_add_one, h] <;> rfl
end C

namespace C
open DD
theorem Rc.ext2 {a b : Rc} (h : ∀ v, st v a = st v b ∧ ed v a = ed v b) : a = b := by
  have h1 : a.l = b.l ∧ a.l + a.w = b.l + b.w := h true
  have h2 : a.t = b.t ∧ a.t + a.h = b.t + b.h := h false
  exact Rc.ext h2.1 h1.1 (by omega) (by omega)
def In (R r : Rc) : Prop := ∀ v, st v R ≤ st v r ∧ st v r < ed v r ∧ ed v r ≤ ed v R
theorem in_self {R : Rc} (h1 : 1 ≤ R.h) (w1 : 1 ≤ R.w) : In R R := fun v => by
  cases v
  · show R.t ≤ R.t ∧ R.t < R.t + R.h ∧ R.t + R.h ≤ R.t + R.h
    omega
  · show R.l ≤ R.l ∧ R.l < R.l + R.w ∧ R.l + R.w ≤ R.l + R.w
    omega
structure Mv (R0 : Rc) (φ : Rc → Rc) (π ρ : Bool → Bool) (f : Bool → Nat → Nat) : Prop where
  pi : ∀ v, π (!v) = !(π v)
  inc : ∀ v, ρ v = false → ∀ a b, st v R0 ≤ a → a < b → b ≤ ed v R0 → f v a < f v b
  dec : ∀ v, ρ v = true → ∀ a b, st v R0 ≤ a → a < b → b ≤ ed v R0 → f v b < f v a
  fwd : ∀ v, ρ v = false → ∀ r, In R0 r → st (π v) (φ r) = f v (st v r) ∧ ed (π v) (φ r) = f v (ed v r)
  bwd : ∀ v, ρ v = true → ∀ r, In R0 r → st (π v) (φ r) = f v (ed v r) ∧ ed (π v) (φ r) = f v (st v r)
section
variable {R0 R : Rc} {φ : Rc → Rc} {π ρ : Bool → Bool} {f : Bool → Nat → Nat} {ps : List Rc} {v : Bool} {p : Nat}
theorem Mv.pi_ne (m : Mv R0 φ π ρ f) {u : Bool} (h : u ≠ π v) : u = π (!v) := by
  rw [m.pi]
  cases u <;> cases e : π v <;> first | rfl | (rw [e] at h; exact absurd rfl h)
theorem in_cutA (h : In R0 R) (lo : st v R < p) (hi : p < ed v R) : In R0 (cutA v p R) := fun u => by
  have q := h u
  by_cases e : u = v
  · subst e
    rw [cutA_st, cutA_ed (Nat.le_of_lt lo)]
    omega
  · have o := cut_other (R := R) (p := p) e
    rw [o.1, o.2.1]
    exact q
theorem in_cutB (h : In R0 R) (lo : st v R < p) (hi : p < ed v R) : In R0 (cutB v p R) := fun u => by
  have q := h u
  by_cases e : u = v
  · subst e
    rw [cutB_st, cutB_ed (Nat.le_of_lt hi)]
    omega
  · have o := cut_other (R := R) (p := p) e
    rw [o.2.2.1, o.2.2.2]
    exact q
theorem Mv.other (m : Mv R0 φ π ρ f) {a b : Rc} (ha : In R0 a) (hb : In R0 b) (h : st v a = st v b ∧ ed v a = ed v b) : st (π v) (φ a) = st (π v) (φ b) ∧ ed (π v) (φ a) = ed (π v) (φ b) := by
  cases e : ρ v with
  | false =>
    obtain ⟨a1, a2⟩ := m.fwd v e a ha
    obtain ⟨b1, b2⟩ := m.fwd v e b hb
    rw [a1, a2, b1, b2, h.1, h.2]
    exact ⟨rfl, rfl⟩
  | true =>
    obtain ⟨a1, a2⟩ := m.bwd v e a ha
    obtain ⟨b1, b2⟩ := m.bwd v e b hb
    rw [a1, a2, b1, b2, h.1, h.2]
    exact ⟨rfl, rfl⟩
theorem fs_map (q : Nat) (u : Bool) (h : ∀ r ∈ ps, (st u (φ r) < q ↔ st v r < p)) : fs u q (ps.map φ) = (fs v p ps).map φ := by
  unfold fs
  rw [List.filter_map]
  congr 1
  refine List.filter_congr fun r hr => ?_
  exact decide_eq_decide.mpr (h r hr)
theorem sn_map (q : Nat) (u : Bool) (h : ∀ r ∈ ps, (q ≤ st u (φ r) ↔ p ≤ st v r)) : sn u q (ps.map φ) = (sn v p ps).map φ := by
  unfold sn
  rw [List.filter_map]
  congr 1
  refine List.filter_congr fun r hr => ?_
  exact decide_eq_decide.mpr (h r hr)
theorem fs_map' (q : Nat) (u : Bool) (h : ∀ r ∈ ps, (st u (φ r) < q ↔ p ≤ st v r)) : fs u q (ps.map φ) = (sn v p ps).map φ := by
  unfold fs sn
  rw [List.filter_map]
  congr 1
  refine List.filter_congr fun r hr => ?_
  exact decide_eq_decide.mpr (h r hr)
theorem sn_map' (q : Nat) (u : Bool) (h : ∀ r ∈ ps, (q ≤ st u (φ r) ↔ st v r < p)) : sn u q (ps.map φ) = (fs v p ps).map φ := by
  unfold fs sn
  rw [List.filter_map]
  congr 1
  refine List.filter_congr fun r hr => ?_
  exact decide_eq_decide.mpr (h r hr)
theorem Mv.seam (m : Mv R0 φ π ρ f) (hR : In R0 R) (hp : ∀ r ∈ ps, In R0 r) (s : Seam v p R ps) : Seam (π v) (f v p) (φ R) (ps.map φ) ∧
    (ρ v = false → fs (π v) (f v p) (ps.map φ) = (fs v p ps).map φ ∧ sn (π v) (f v p) (ps.map φ) = (sn v p ps).map φ ∧ cutA (π v) (f v p) (φ R) = φ (cutA v p R) ∧ cutB (π v) (f v p) (φ R) = φ (cutB v p R)) ∧
    (ρ v = true → fs (π v) (f v p) (ps.map φ) = (sn v p ps).map φ ∧ sn (π v) (f v p) (ps.map φ) = (fs v p ps).map φ ∧ cutA (π v) (f v p) (φ R) = φ (cutB v p R) ∧ cutB (π v) (f v p) (φ R) = φ (cutA v p R)) := by
  have lo := s.lo
  have hi := s.hi
  have qR := hR v
  have iA := in_cutA hR lo hi
  have iB := in_cutB hR lo hi
  have oA : st (!v) (cutA v p R) = st (!v) R ∧ ed (!v) (cutA v p R) = ed (!v) R ∧ st (!v) (cutB v p R) = st (!v) R ∧ ed (!v) (cutB v p R) = ed (!v) R := cut_other (by cases v <;> exact Bool.noConfusion)
  have ne : (π (!v)) ≠ π v := by rw [m.pi]; cases π v <;> exact Bool.noConfusion
  have other : ∀ {x : Rc}, In R0 x → st (!v) x = st (!v) R ∧ ed (!v) x = ed (!v) R → ∀ u, u ≠ π v → st u (φ x) = st u (φ R) ∧ ed u (φ x) = ed u (φ R) := fun hx h u hu => by
    rw [m.pi_ne hu]
    exact m.other hx hR h
  cases e : ρ v with
  | false =>
    obtain ⟨r1, r2⟩ := m.fwd v e R hR
    have inc := m.inc v e
    have l1 := inc _ _ qR.1 lo (by omega)
    have l2 := inc p _ (by omega) hi qR.2.2
    have iff : ∀ r ∈ ps, (st (π v) (φ r) < f v p ↔ st v r < p) := fun r hr => by
      have q := hp r hr v
      rw [(m.fwd v e r (hp r hr)).1]
      constructor
      · intro h
        rcases Nat.lt_trichotomy (st v r) p with z | z | z
        · exact z
        · rw [z] at h; omega
        · have := inc p (st v r) (by omega) z (by omega)
          omega
      · intro h
        exact inc _ _ q.1 h (by omega)
    refine ⟨⟨by rw [r1]; exact l1, by rw [r2]; exact l2, fun x hx => ?_⟩, fun _ => ⟨fs_map _ _ iff, sn_map _ _ fun r hr => ?_, ?_, ?_⟩, fun z => nomatch z⟩
    · obtain ⟨r, hr, rfl⟩ := List.mem_map.mp hx
      have q := hp r hr v
      obtain ⟨x1, x2⟩ := m.fwd v e r (hp r hr)
      rw [x1, x2]
      rcases s.un r hr with h | h
      · rcases Nat.lt_or_eq_of_le h with z | z
        · exact .inl (Nat.le_of_lt (inc _ _ (by omega) z (by omega)))
        · rw [z]; exact .inl (Nat.le_refl _)
      · rcases Nat.lt_or_eq_of_le h with z | z
        · exact .inr (Nat.le_of_lt (inc _ _ (by omega) z (by omega)))
        · rw [← z]; exact .inr (Nat.le_refl _)
    · have := iff r hr
      omega
    · refine Rc.ext2 fun u => ?_
      by_cases hu : u = π v
      · subst hu
        obtain ⟨a1, a2⟩ := m.fwd v e _ iA
        rw [cutA_st, cutA_ed (by rw [r1]; omega), a1, a2, r1, cutA_st, cutA_ed (Nat.le_of_lt lo)]
        exact ⟨rfl, rfl⟩
      · have o := other iA ⟨oA.1, oA.2.1⟩ u hu
        have c := cut_other (R := φ R) (p := f v p) hu
        rw [c.1, c.2.1, o.1, o.2]
        exact ⟨rfl, rfl⟩
    · refine Rc.ext2 fun u => ?_
      by_cases hu : u = π v
      · subst hu
        obtain ⟨a1, a2⟩ := m.fwd v e _ iB
        rw [cutB_st, cutB_ed (by rw [r2]; omega), a1, a2, r2, cutB_st, cutB_ed (Nat.le_of_lt hi)]
        exact ⟨rfl, rfl⟩
      · have o := other iB ⟨oA.2.2.1, oA.2.2.2⟩ u hu
        have c := cut_other (R := φ R) (p := f v p) hu
        rw [c.2.2.1, c.2.2.2, o.1, o.2]
        exact ⟨rfl, rfl⟩
  | true =>
    obtain ⟨r1, r2⟩ := m.bwd v e R hR
    have dec := m.dec v e
    have l1 := dec _ _ qR.1 lo (by omega)
    have l2 := dec p _ (by omega) hi qR.2.2
    have iff : ∀ r ∈ ps, (st (π v) (φ r) < f v p ↔ p ≤ st v r) := fun r hr => by
      have q := hp r hr v
      rw [(m.bwd v e r (hp r hr)).1]
      constructor
      · intro h
        rcases s.un r hr with z | z
        · rcases Nat.lt_or_eq_of_le z with y | y
          · have := dec _ _ (by omega) y (by omega)
            omega
          · rw [y] at h; omega
        · exact z
      · intro h
        exact dec _ _ (by omega) (by omega) q.2.2
    refine ⟨⟨by rw [r1]; exact l2, by rw [r2]; exact l1, fun x hx => ?_⟩, (fun z => absurd z (by decide)), fun _ => ⟨fs_map' _ _ iff, sn_map' _ _ fun r hr => ?_, ?_, ?_⟩⟩
    · obtain ⟨r, hr, rfl⟩ := List.mem_map.mp hx
      have q := hp r hr v
      obtain ⟨x1, x2⟩ := m.bwd v e r (hp r hr)
      rw [x1, x2]
      rcases s.un r hr with h | h
      · rcases Nat.lt_or_eq_of_le h with z | z
        · exact .inr (Nat.le_of_lt (dec _ _ (by omega) z (by omega)))
        · rw [z]; exact .inr (Nat.le_refl _)
      · rcases Nat.lt_or_eq_of_le h with z | z
        · exact .inl (Nat.le_of_lt (dec _ _ (by omega) z (by omega)))
        · rw [← z]; exact .inl (Nat.le_refl _)
    · have := iff r hr
      omega
    · refine Rc.ext2 fun u => ?_
      by_cases hu : u = π v
      · subst hu
        obtain ⟨a1, a2⟩ := m.bwd v e _ iB
        rw [cutA_st, cutA_ed (by rw [r1]; omega), a1, a2, r1, cutB_st, cutB_ed (Nat.le_of_lt hi)]
        exact ⟨rfl, rfl⟩
      · have o := other iB ⟨oA.2.2.1, oA.2.2.2⟩ u hu
        have c := cut_other (R := φ R) (p := f v p) hu
        rw [c.1, c.2.1, o.1, o.2]
        exact ⟨rfl, rfl⟩
    · refine Rc.ext2 fun u => ?_
      by_cases hu : u = π v
      · subst hu
        obtain ⟨a1, a2⟩ := m.bwd v e _ iA
        rw [cutB_st, cutB_ed (by rw [r2]; omega), a1, a2, r2, cutA_st, cutA_ed (Nat.le_of_lt lo)]
        exact ⟨rfl, rfl⟩
      · have o := other iA ⟨oA.1, oA.2.1⟩ u hu
        have c := cut_other (R := φ R) (p := f v p) hu
        rw [c.2.2.1, c.2.2.2, o.1, o.2]
        exact ⟨rfl, rfl⟩
theorem TileR.move {S : Rc} {c : Nat → Nat → Nat × Nat} (k : TileR R ps) (hb : ∀ r ∈ ps, 1 ≤ (φ r).h ∧ 1 ≤ (φ r).w ∧ S.t ≤ (φ r).t ∧ (φ r).t + (φ r).h ≤ S.t + S.h ∧ S.l ≤ (φ r).l ∧ (φ r).l + (φ r).w ≤ S.l + S.w)
    (hc : ∀ x y, inR x y S = true → inR (c x y).1 (c x y).2 R = true ∧ ∀ r ∈ ps, (inR x y (φ r) = true ↔ inR (c x y).1 (c x y).2 r = true)) : TileR S (ps.map φ) := by
  refine ⟨fun q hq => ?_, fun x y h => ?_⟩
  · obtain ⟨r, hr, rfl⟩ := List.mem_map.mp hq
    exact hb r hr
  · obtain ⟨h1, h2⟩ := hc x y h
    rw [List.countP_map, ← k.one _ _ h1]
    exact List.countP_congr fun r hr => h2 r hr
end
def shR (a b : Nat) (r : Rc) : Rc := ⟨r.t - a, r.l - b, r.h, r.w⟩
section
variable {H W a b : Nat} {R : Rc} {ps : List Rc}
theorem TileR.sh (k : TileR R ps) : TileR ⟨0, 0, R.h, R.w⟩ (ps.map (shR R.t R.l)) := by
  refine k.move (c := fun x y => (x + R.t, y + R.l)) (fun r hr => ?_) fun x y h => ?_
  · obtain ⟨h1, h2, h3, h4, h5, h6⟩ := k.ins r hr
    refine ⟨h1, h2, Nat.zero_le _, ?_, Nat.zero_le _, ?_⟩
    · show r.t - R.t + r.h ≤ 0 + R.h
      omega
    · show r.l - R.l + r.w ≤ 0 + R.w
      omega
  · unfold inR at h
    rw [decide_eq_true_eq] at h
    have h : 0 ≤ x ∧ x < 0 + R.h ∧ 0 ≤ y ∧ y < 0 + R.w := h
    refine ⟨?_, fun r hr => ?_⟩
    · unfold inR
      rw [decide_eq_true_eq]
      show R.t ≤ x + R.t ∧ x + R.t < R.t + R.h ∧ R.l ≤ y + R.l ∧ y + R.l < R.l + R.w
      omega
    · obtain ⟨h1, h2, h3, h4, h5, h6⟩ := k.ins r hr
      unfold inR
      rw [decide_eq_true_eq, decide_eq_true_eq]
      show (r.t - R.t ≤ x ∧ x < r.t - R.t + r.h ∧ r.l - R.l ≤ y ∧ y < r.l - R.l + r.w) ↔ (r.t ≤ x + R.t ∧ x + R.t < r.t + r.h ∧ r.l ≤ y + R.l ∧ y + R.l < r.l + r.w)
      omega
end
end C

namespace C
open PySem DD L2
def g_sides : En → Option Out := (sSeq (sSet 1 (dL (lLc (iAny (dVar 0)) (gSet 3) fYes (d2 gAdd (d2 gIx (dVar 3) (dC (.int 0))) (d2 gIx (dVar 3) (dC (.int 2)))) [3])))
 (sSeq (sSet 2 (dL (lLc (iAny (dVar 0)) (gSet 3) fYes (d2 gAdd (d2 gIx (dVar 3) (dC (.int 1))) (d2 gIx (dVar 3) (dC (.int 3)))) [3])))
 (sRet (dTup (aCons (dMaxDef 0 (dVar 1)) (aCons (dMaxDef 0 (dVar 2)) aNil))))))
def F_sides : List D → Option D := runD g_sides 4 1
theorem maxDef_of {α : Type} {xs : List α} {h : α → Int} {m : Int} {fa : En → Option D} {en : En} (hf : fa en = some (.lst (xs.map fun x => D.int (h x)))) (h1 : ∃ x ∈ xs, h x = m) (h2 : ∀ x ∈ xs, h x ≤ m) : dMaxDef 0 fa en = some (.int m) := by
  obtain ⟨x, hx, e⟩ := h1
  have hm : m ∈ xs.map h := List.mem_map.mpr ⟨x, hx, e⟩
  have hne : xs.map h ≠ [] := by
    intro z
    rw [z] at hm
    exact absurd hm List.not_mem_nil
  have q := maxD_one hne hm fun y hy => by
    obtain ⟨z, hz, rfl⟩ := List.mem_map.mp hy
    exact h2 z hz
  show (fa en).bind _ = _
  rw [hf]
  show (intsOf _).map _ = _
  rw [ints_map]
  show some (D.int (if xs.map h = [] then _ else _)) = _
  rw [if_neg hne, ← q]
theorem sq_any {b : Bool} {ps : List Rc} {i : Nat} {en : En} (h : en[i]? = some (.dat (sqD b ps))) : iAny (dVar i) en = some (ps.map rcD) := by
  show (dVar i en).bind _ = _
  rw [dVar_of h]
  exact sq_items b ps
theorem sides_gen (b : Bool) (ps : List Rc) (hl : ps.length ≤ 200) {m : Bool → Nat} (h1 : ∀ v, ∃ r ∈ ps, ed v r = m v) (h2 : ∀ v, ∀ r ∈ ps, ed v r ≤ m v) : F_sides [sqD b ps] = some (.tup [natD (m false), natD (m true)]) := by
  have l1 : lLc (iAny (dVar 0)) (gSet 3) fYes (d2 gAdd (d2 gIx (dVar 3) (dC (.int 0))) (d2 gIx (dVar 3) (dC (.int 2)))) [3] [.dat (sqD b ps), .no, .no, .no] = some (ps.map fun r => D.int (ed false r : Int)) :=
    lc_all ps rcD _ (sq_any rfl) (by omega) fun r _ => ⟨_, rfl, by
      show some (D.int ((r.t : Int) + (r.h : Int))) = _
      rw [cast_add] <;> rfl⟩
  have l2 : ∀ s1, lLc (iAny (dVar 0)) (gSet 3) fYes (d2 gAdd (d2 gIx (dVar 3) (dC (.int 1))) (d2 gIx (dVar 3) (dC (.int 3)))) [3] [.dat (sqD b ps), s1, .no, .no] = some (ps.map fun r => D.int (ed true r : Int)) := fun s1 =>
    lc_all ps rcD _ (sq_any rfl) (by omega) fun r _ => ⟨_, rfl, by
      show some (D.int ((r.l : Int) + (r.w : Int))) = _
      rw [cast_add] <;> rfl⟩
  refine run_rt rfl (seq (set_of (dL_of l1)) (seq (set_of (dL_of (l2 _))) (ret_of (tup_of (a_two (maxDef_of (m := (m false : Int)) (h := fun r => (ed false r : Int)) rfl ?_ ?_) (maxDef_of (m := (m true : Int)) (h := fun r => (ed true r : Int)) rfl ?_ ?_))))))
  · obtain ⟨r, hr, e⟩ := h1 false
    exact ⟨r, hr, by rw [e]⟩
  · exact fun r hr => by have := h2 false r hr; omega
  · obtain ⟨r, hr, e⟩ := h1 true
    exact ⟨r, hr, by rw [e]⟩
  · exact fun r hr => by have := h2 true r hr; omega
theorem ed_max {R : Rc} {ps : List Rc} (k : TileR R ps) (h1 : 1 ≤ R.h) (w1 : 1 ≤ R.w) (v : Bool) : (∃ r ∈ ps, ed v r = ed v R) ∧ ∀ r ∈ ps, ed v r ≤ ed v R := by
  have hp : st v R < ed v R := (in_self h1 w1 v).2.1
  obtain ⟨r, hr, a, b⟩ := k.on (v := v) (q := ed v R - 1) h1 w1 (by omega) (by omega)
  have := k.st_ed (v := v) hr
  exact ⟨⟨r, hr, by omega⟩, fun q hq => (k.st_ed hq).2.2⟩
theorem sides_ok {H W : Nat} {ps : List Rc} (b : Bool) (k : TileR ⟨0, 0, H, W⟩ ps) (h1 : 1 ≤ H) (w1 : 1 ≤ W) (hl : ps.length ≤ 200) : F_sides [sqD b ps] = some (.tup [natD H, natD W]) := by
  have q := sides_gen b ps hl (m := fun v => if v = true then W else H) (fun v => by
    obtain ⟨⟨r, hr, e⟩, _⟩ := ed_max k h1 w1 v
    refine ⟨r, hr, e.trans ?_⟩
    cases v
    · exact Nat.zero_add H
    · exact Nat.zero_add W) (fun v r hr => by
    have := (ed_max k h1 w1 v).2 r hr
    cases v
    · have this : _ ≤ 0 + H := this
      show _ ≤ H
      omega
    · have this : _ ≤ 0 + W := this
      show _ ≤ W
      omega)
  exact q
end C

namespace DD
open PySem L2
section
variable {α : Type} {fi : En → Option (List D)} {gd : D → En → Option En} {g : En → Option Out} {en : En}
end
end DD

namespace C
open PySem DD L2
def k_LETTERS : D := .str "abcdefghijklmnopqrstuvwxyz"
def g_is_fabric : En → Option Out := (sRet (dAnd2 (d2 gEq (dCB gLen (aCons (dVar 0) aNil)) (dC (.int 1))) (d2 gInS (dVar 0) (dC k_LETTERS))))
def F_is_fabric : List D → Option D := runD g_is_fabric 1 1
abbrev strS (l : List Nat) : D := .str (SX.S l)
def Cell.l : Cell → List Nat
  | .pl a => [a]
  | .dg a s b => [a, if s then 92 else 47, b]
end C

namespace C
open DD
def ov (v : Bool) (a b : Rc) : Int := min (ed v a : Int) (ed v b : Int) - max (st v a : Int) (st v b : Int)
def side (a b : Rc) : Nat := if ov true a b = 0 then (ov false a b).toNat else if ov false a b = 0 then (ov true a b).toNat else 0
def beh (v : Bool) (a b : Rc) : Nat := if ed v a = st v b then (ov (!v) a b).toNat else 0
def SL : List Rc → Nat
  | [] => 0
  | a :: ps => (ps.map (side a)).sum + SL ps
theorem ov_comm (v : Bool) (a b : Rc) : ov v a b = ov v b a := by
  unfold ov
  rw [Int.min_comm, Int.max_comm]
theorem side_beh {a b : Rc} (ha : ∀ v, st v a < ed v a) (hb : ∀ v, st v b < ed v b) : side a b = beh true a b + beh true b a + (beh false a b + beh false b a) := by
  have a1 := ha true
  have a2 := ha false
  have b1 := hb true
  have b2 := hb false
  unfold side beh
  rw [ov_comm (!true) b a, ov_comm (!false) b a]
  show (if ov true a b = 0 then (ov false a b).toNat else if ov false a b = 0 then (ov true a b).toNat else 0) = (if ed true a = st true b then (ov false a b).toNat else 0) + (if ed true b = st true a then (ov false a b).toNat else 0) + ((if ed false a = st false b then (ov true a b).toNat else 0) + (if ed false b = st false a then (ov true a b).toNat else 0))
  have e1 : ov true a b = min (ed true a : Int) (ed true b : Int) - max (st true a : Int) (st true b : Int) := rfl
  have e2 : ov false a b = min (ed false a : Int) (ed false b : Int) - max (st false a : Int) (st false b : Int) := rfl
  generalize ov true a b = x at e1 ⊢
  generalize ov false a b = y at e2 ⊢
  split <;> split <;> split <;> split <;> split <;> first | omega | (split <;> omega)
theorem beh_self {v : Bool} {a : Rc} (ha : st v a < ed v a) : beh v a a = 0 := by
  unfold beh
  rw [if_neg (by omega)]
theorem sum_add {α : Type} (f g : α → Nat) : ∀ xs : List α, (xs.map fun x => f x + g x).sum = (xs.map f).sum + (xs.map g).sum
  | [] => rfl
  | x :: xs => by
    rw [List.map_cons, List.map_cons, List.map_cons, List.sum_cons, List.sum_cons, List.sum_cons, sum_add f g xs]
    omega
theorem sum_zero {α : Type} (f : α → Nat) : ∀ xs : List α, (∀ x ∈ xs, f x = 0) → (xs.map f).sum = 0
  | [], _ => rfl
  | x :: xs, h => by
    rw [List.map_cons, List.sum_cons, h x List.mem_cons_self, sum_zero f xs fun y hy => h y (List.mem_cons_of_mem _ hy)]
theorem sum_swap {α β : Type} (f : α → β → Nat) (ys : List β) : ∀ xs : List α, (xs.map fun x => (ys.map fun y => f x y).sum).sum = (ys.map fun y => (xs.map fun x => f x y).sum).sum
  | [] => (sum_zero _ ys fun _ _ => rfl).symm
  | x :: xs => by
    rw [List.map_cons, List.sum_cons, sum_swap f ys xs]
    have e : (ys.map fun y => ((x :: xs).map fun x => f x y).sum) = ys.map fun y => f x y + (xs.map fun x => f x y).sum := List.map_congr_left fun y _ => by rw [List.map_cons, List.sum_cons]
    rw [e, sum_add]
theorem sum_count {α : Type} (P : α → Bool) : ∀ xs : List α, (xs.map fun x => if P x = true then 1 else 0).sum = xs.countP P
  | [] => rfl
  | x :: xs => by
    rw [List.map_cons, List.sum_cons, sum_count P xs, List.countP_cons]
    omega
theorem sum_const {α : Type} (f : α → Nat) (c : Nat) : ∀ xs : List α, (∀ x ∈ xs, f x = c) → (xs.map f).sum = xs.length * c
  | [], _ => by rw [List.map_nil, List.length_nil, Nat.zero_mul] <;> rfl
  | x :: xs, h => by
    rw [List.map_cons, List.sum_cons, h x List.mem_cons_self, sum_const f c xs fun y hy => h y (List.mem_cons_of_mem _ hy), List.length_cons, Nat.add_mul, Nat.one_mul, Nat.add_comm]
theorem sum_congr {α : Type} {f g : α → Nat} {xs : List α} (h : ∀ x ∈ xs, f x = g x) : (xs.map f).sum = (xs.map g).sum := by
  rw [List.map_congr_left h]
theorem count_between : ∀ (n lo hi : Nat), (List.range n).countP (fun x => decide (lo ≤ x ∧ x < hi)) = min n hi - lo
  | 0, lo, hi => by
    rw [List.range_zero, List.countP_nil]
    omega
  | n + 1, lo, hi => by
    rw [List.range_succ, List.countP_append, count_between n lo hi, List.countP_cons, List.countP_nil]
    by_cases h : lo ≤ n ∧ n < hi
    · rw [if_pos (decide_eq_true h)]
      omega
    · rw [if_neg (by rw [decide_eq_true_eq]; exact h)]
      omega
def SB (f : Rc → Rc → Nat) (ps qs : List Rc) : Nat := (ps.map fun a => (qs.map (f a)).sum).sum
theorem sb_cons_l (f : Rc → Rc → Nat) (a : Rc) (ps qs : List Rc) : SB f (a :: ps) qs = (qs.map (f a)).sum + SB f ps qs := by
  unfold SB
  rw [List.map_cons, List.sum_cons]
theorem sb_cons_r (f : Rc → Rc → Nat) (b : Rc) (ps qs : List Rc) : SB f ps (b :: qs) = (ps.map fun a => f a b).sum + SB f ps qs := by
  unfold SB
  rw [← sum_add]
  exact sum_congr fun a _ => by rw [List.map_cons, List.sum_cons]
theorem sl_pairs : ∀ ps : List Rc, (∀ r ∈ ps, ∀ v, st v r < ed v r) → SL ps = SB (beh true) ps ps + SB (beh false) ps ps
  | [], _ => rfl
  | a :: ps, h => by
    have ih := sl_pairs ps fun r hr => h r (List.mem_cons_of_mem _ hr)
    have ha := h a List.mem_cons_self
    rw [sb_cons_l, sb_cons_r, sb_cons_l, sb_cons_r, List.map_cons, List.map_cons, List.sum_cons, List.sum_cons, beh_self (ha true), beh_self (ha false)]
    show (ps.map (side a)).sum + SL ps = _
    rw [ih]
    have e : (ps.map (side a)).sum = (ps.map (beh true a)).sum + (ps.map fun b => beh true b a).sum + ((ps.map (beh false a)).sum + (ps.map fun b => beh false b a).sum) := by
      rw [← sum_add, ← sum_add, ← sum_add]
      exact sum_congr fun b hb => side_beh ha (h b (List.mem_cons_of_mem _ hb))
    omega
def ptv (v : Bool) (p q : Nat) : Nat × Nat := if v = true then (q, p) else (p, q)
theorem in_v {v : Bool} {p q : Nat} {r : Rc} : inR (ptv v p q).1 (ptv v p q).2 r = true ↔ st v r ≤ p ∧ p < ed v r ∧ st (!v) r ≤ q ∧ q < ed (!v) r := by
  cases v
  · show inR p q r = true ↔ r.t ≤ p ∧ p < r.t + r.h ∧ r.l ≤ q ∧ q < r.l + r.w
    unfold inR
    rw [decide_eq_true_eq]
  · show inR q p r = true ↔ r.l ≤ p ∧ p < r.l + r.w ∧ r.t ≤ q ∧ q < r.t + r.h
    unfold inR
    rw [decide_eq_true_eq]
    omega
section
variable {R : Rc} {ps : List Rc} {v : Bool}
theorem ov_count (a b : Rc) : (ov v a b).toNat = ((List.range (ed v a - st v a)).map fun x => if decide (st v b ≤ st v a + x ∧ st v a + x < ed v b) = true then 1 else 0).sum := by
  rw [sum_count]
  have e : (List.range (ed v a - st v a)).countP (fun x => decide (st v b ≤ st v a + x ∧ st v a + x < ed v b)) = (List.range (ed v a - st v a)).countP (fun x => decide (st v b - st v a ≤ x ∧ x < ed v b - st v a)) := List.countP_congr fun x hx => by
    rw [decide_eq_true_eq, decide_eq_true_eq]
    omega
  rw [e, count_between]
  unfold ov
  omega
theorem TileR.behind (k : TileR R ps) {a : Rc} (ha : a ∈ ps) (hlt : ed v a < ed v R) : (ps.map (beh v a)).sum = ed (!v) a - st (!v) a := by
  have e : (ps.map (beh v a)).sum = (ps.map fun b => ((List.range (ed (!v) a - st (!v) a)).map fun x => if decide (ed v a = st v b ∧ st (!v) b ≤ st (!v) a + x ∧ st (!v) a + x < ed (!v) b) = true then 1 else 0).sum).sum := sum_congr fun b hb => by
    unfold beh
    by_cases h : ed v a = st v b
    · rw [if_pos h, ov_count]
      refine sum_congr fun x _ => ?_
      simp only [h, true_and]
    · rw [if_neg h]
      exact (sum_zero _ _ fun x _ => if_neg (by rw [decide_eq_true_eq]; exact fun z => h z.1)).symm
  rw [e, sum_swap]
  have s := fun u => k.st_ed (v := u) ha
  rw [sum_const _ 1, List.length_range, Nat.mul_one]
  intro x hx
  rw [List.mem_range] at hx
  rw [sum_count]
  have s1 := s v
  have s2 := s (!v)
  have hR : inR (ptv v (ed v a) (st (!v) a + x)).1 (ptv v (ed v a) (st (!v) a + x)).2 R = true := in_v.mpr ⟨by omega, hlt, by omega, by omega⟩
  rw [← k.one _ _ hR]
  refine List.countP_congr fun b hb => ?_
  rw [in_v, decide_eq_true_eq]
  have sb := k.st_ed (v := v) hb
  constructor
  · rintro ⟨h1, h2, h3⟩
    exact ⟨by omega, by omega, h2, h3⟩
  · rintro ⟨h1, h2, h3, h4⟩
    refine ⟨?_, h3, h4⟩
    rcases Nat.lt_or_eq_of_le h1 with z | z
    · exfalso
      have ca : inR (ptv v (ed v a - 1) (st (!v) a + x)).1 (ptv v (ed v a - 1) (st (!v) a + x)).2 a = true := in_v.mpr ⟨by omega, by omega, by omega, by omega⟩
      have cb : inR (ptv v (ed v a - 1) (st (!v) a + x)).1 (ptv v (ed v a - 1) (st (!v) a + x)).2 b = true := in_v.mpr ⟨by omega, by omega, h3, h4⟩
      obtain ⟨i, hi⟩ := List.mem_iff_getElem?.mp ha
      obtain ⟨j, hj⟩ := List.mem_iff_getElem?.mp hb
      have := k.apart hi hj ca cb
      subst this
      rw [hi] at hj
      cases hj
      omega
    · exact z.symm
theorem TileR.at_end (k : TileR R ps) {a : Rc} (ha : a ∈ ps) (he : ed v a = ed v R) : (ps.map (beh v a)).sum = 0 := sum_zero _ _ fun b hb => by
  have sb := k.st_ed (v := v) hb
  unfold beh
  rw [if_neg (by omega)]
theorem TileR.last (k : TileR R ps) (h1 : 1 ≤ R.h) (w1 : 1 ≤ R.w) : (ps.map fun a => if ed v a = ed v R then ed (!v) a - st (!v) a else 0).sum = ed (!v) R - st (!v) R := by
  have hv := (in_self h1 w1 v).2.1
  have e : (ps.map fun a => if ed v a = ed v R then ed (!v) a - st (!v) a else 0).sum = (ps.map fun a => ((List.range (ed (!v) R - st (!v) R)).map fun x => if decide (ed v a = ed v R ∧ st (!v) a ≤ st (!v) R + x ∧ st (!v) R + x < ed (!v) a) = true then 1 else 0).sum).sum := sum_congr fun a ha => by
    have s := k.st_ed (v := !v) ha
    by_cases h : ed v a = ed v R
    · rw [if_pos h]
      have := ov_count (v := !v) R a
      unfold ov at this
      rw [show ed (!v) a - st (!v) a = ((min (ed (!v) R : Int) (ed (!v) a : Int)) - max (st (!v) R : Int) (st (!v) a : Int)).toNat by omega, this]
      refine sum_congr fun x _ => ?_
      simp only [h, true_and]
    · rw [if_neg h]
      exact (sum_zero _ _ fun x _ => if_neg (by rw [decide_eq_true_eq]; exact fun z => h z.1)).symm
  rw [e, sum_swap, sum_const _ 1, List.length_range, Nat.mul_one]
  intro x hx
  rw [List.mem_range] at hx
  rw [sum_count]
  have hR : inR (ptv v (ed v R - 1) (st (!v) R + x)).1 (ptv v (ed v R - 1) (st (!v) R + x)).2 R = true := in_v.mpr ⟨by omega, by omega, by omega, by omega⟩
  rw [← k.one _ _ hR]
  refine List.countP_congr fun b hb => ?_
  rw [in_v, decide_eq_true_eq]
  have sb := k.st_ed (v := v) hb
  omega
theorem TileR.sb (k : TileR R ps) (h1 : 1 ≤ R.h) (w1 : 1 ≤ R.w) : SB (beh v) ps ps + (ed (!v) R - st (!v) R) = (ps.map fun a => ed (!v) a - st (!v) a).sum := by
  unfold SB
  rw [← k.last (v := v) h1 w1, ← sum_add]
  refine sum_congr fun a ha => ?_
  have s := k.st_ed (v := v) ha
  by_cases h : ed v a = ed v R
  · rw [if_pos h, k.at_end ha h, Nat.zero_add]
  · rw [if_neg h, k.behind ha (by omega), Nat.add_zero]
theorem TileR.seam (k : TileR R ps) (h1 : 1 ≤ R.h) (w1 : 1 ≤ R.w) : SL ps + (R.h + R.w) = (ps.map fun a => a.h + a.w).sum := by
  rw [sl_pairs ps fun r hr u => (k.st_ed (v := u) hr).2.1]
  have a := k.sb (v := true) h1 w1
  have b := k.sb (v := false) h1 w1
  have ea : (ps.map fun a => ed (!true) a - st (!true) a) = ps.map fun a => a.h := List.map_congr_left fun r _ => by
    show r.t + r.h - r.t = r.h
    omega
  have eb : (ps.map fun a => ed (!false) a - st (!false) a) = ps.map fun a => a.w := List.map_congr_left fun r _ => by
    show r.l + r.w - r.l = r.w
    omega
  have ra : ed (!true) R - st (!true) R = R.h := by
    show R.t + R.h - R.t = R.h
    omega
  have rb : ed (!false) R - st (!false) R = R.w := by
    show R.l + R.w - R.l = R.w
    omega
  rw [ea, ra] at a
  rw [eb, rb] at b
  have s := sum_add (fun r : Rc => r.h) (fun r : Rc => r.w) ps
  rw [s]
  omega
theorem sum_parts (f : Rc → Nat) (p : Nat) : ((fs v p ps).map f).sum + ((sn v p ps).map f).sum = (ps.map f).sum := by
  unfold fs sn
  induction ps with
  | nil => rfl
  | cons r ps ih =>
    rw [List.filter_cons, List.filter_cons, List.map_cons, List.sum_cons]
    by_cases h : st v r < p
    · rw [if_pos (decide_eq_true h), if_neg (by rw [decide_eq_true_eq]; omega), List.map_cons, List.sum_cons]
      omega
    · rw [if_neg (by rw [decide_eq_true_eq]; exact h), if_pos (decide_eq_true (by omega)), List.map_cons, List.sum_cons]
      omega
def lnS (v : Bool) (R : Rc) : Nat := if v = true then R.h else R.w
theorem Seam.length {p : Nat} (s : Seam v p R ps) (k : TileR R ps) (h1 : 1 ≤ R.h) (w1 : 1 ≤ R.w) : SL ps = SL (fs v p ps) + SL (sn v p ps) + lnS v R := by
  have pa := cutA_pos h1 w1 s.lo s.hi
  have pb := cutB_pos h1 w1 s.lo s.hi
  have a := (s.tileA k).seam pa.1 pa.2
  have b := (s.tileB k).seam pb.1 pb.2
  have c := k.seam h1 w1
  have d := sum_parts (v := v) (ps := ps) (fun r => r.h + r.w) p
  have lo := s.lo
  have hi := s.hi
  cases v
  · have lo : R.t < p := lo
    have hi : p < R.t + R.h := hi
    have a : SL (fs false p ps) + (p - R.t + R.w) = _ := a
    have b : SL (sn false p ps) + (R.t + R.h - p + R.w) = _ := b
    show SL ps = _ + R.w
    omega
  · have lo : R.l < p := lo
    have hi : p < R.l + R.w := hi
    have a : SL (fs true p ps) + (R.h + (p - R.l)) = _ := a
    have b : SL (sn true p ps) + (R.h + (R.l + R.w - p)) = _ := b
    show SL ps = _ + R.h
    omega
end
end C

namespace C
open PySem DD L2
abbrev Tr := Nat × Nat × Nat
def nb1 (ps : List Rc) (i : Nat) : List Tr := (((List.range (ps.length - (i + 1))).map fun j => i + 1 + j).filter fun j => decide (0 < side (ps.getD i rc0) (ps.getD j rc0))).map fun j => (i, j, side (ps.getD i rc0) (ps.getD j rc0))
def nbs (ps : List Rc) : List Tr := (List.range ps.length).flatMap (nb1 ps)
end C

namespace C
open PySem DD L2
theorem eq_nat (a b : Nat) : gEq (natD a) (natD b) = some (.bl (decide (a = b))) := by
  refine (eq_ints _ _).trans ?_
  congr 2
  exact decide_eq_decide.mpr (by omega)
theorem at_ints {ds : List Int} {i a : Nat} (h : ds[i]? = some (a : Int)) : gIx (.lst (ds.map D.int)) (natD i) = some (natD a) := by
  show atI (ds.map D.int) (i : Int) = _
  rw [atI_map, h] <;> rfl
end C

namespace C
open PySem DD L2
end C

namespace C
open PySem DD L2
def sel (ps : List Rc) (ns : List Nat) : List Rc := ns.map fun i => ps.getD i rc0
def fN (v : Bool) (p : Nat) (ps : List Rc) (ns : List Nat) : List Nat := ns.filter fun i => decide (st v (ps.getD i rc0) < p)
def sN (v : Bool) (p : Nat) (ps : List Rc) (ns : List Nat) : List Nat := ns.filter fun i => decide (p ≤ st v (ps.getD i rc0))
theorem sel_fN {v : Bool} {p : Nat} {ps : List Rc} {ns : List Nat} : sel ps (fN v p ps ns) = fs v p (sel ps ns) := by
  unfold sel fN fs
  rw [List.filter_map] <;> rfl
theorem sel_sN {v : Bool} {p : Nat} {ps : List Rc} {ns : List Nat} : sel ps (sN v p ps ns) = sn v p (sel ps ns) := by
  unfold sel sN sn
  rw [List.filter_map] <;> rfl
theorem sel_len {ps : List Rc} {ns : List Nat} : (sel ps ns).length = ns.length := List.length_map _
theorem fN_sel_len {v : Bool} {p : Nat} {ps : List Rc} {ns : List Nat} : (fN v p ps ns).length = (fs v p (sel ps ns)).length := by rw [← sel_fN, sel_len]
theorem sN_sel_len {v : Bool} {p : Nat} {ps : List Rc} {ns : List Nat} : (sN v p ps ns).length = (sn v p (sel ps ns)).length := by rw [← sel_sN, sel_len]
inductive Tk where
  | n (i : Nat)
  | s (v : Bool)
inductive Plan (ps : List Rc) : Rc → List Nat → List Tk → Prop
  | one {R : Rc} {i : Nat} : i < ps.length → ps.getD i rc0 = R → Plan ps R [i] [.n i]
  | cut {R : Rc} {ns : List Nat} {v : Bool} {p : Nat} {a b : List Tk} : TileR R (sel ps ns) → 1 ≤ R.h → 1 ≤ R.w → Seam v p R (sel ps ns) → Plan ps (cutA v p R) (fN v p ps ns) a → Plan ps (cutB v p R) (sN v p ps ns) b → Plan ps R ns (a ++ b ++ [.s v])
theorem Plan.len {ps : List Rc} {R : Rc} {ns : List Nat} {pl : List Tk} (h : Plan ps R ns pl) : pl.length + 1 = 2 * ns.length := by
  induction h with
  | one _ _ => rfl
  | @cut R ns v p a b k _ _ s _ _ ia ib =>
    have := parts_len (v := v) (p := p) (ps := sel ps ns)
    rw [fN_sel_len] at ia
    rw [sN_sel_len] at ib
    rw [sel_len] at this
    rw [List.length_append, List.length_append, List.length_singleton]
    omega
def Goes (gd : D → En → Option En) (g : En → Option Out) : List D → En → En → Prop
  | [], en, en' => en = en'
  | d :: ds, en, en' => ∃ en1 en2, gd d en = some en1 ∧ (g en1 = some (.nx en2) ∨ g en1 = some (.ct en2)) ∧ Goes gd g ds en2 en'
theorem Goes.append {gd : D → En → Option En} {g : En → Option Out} : ∀ {xs ys : List D} {a b c : En}, Goes gd g xs a b → Goes gd g ys b c → Goes gd g (xs ++ ys) a c
  | [], _, _, _, _, h, h' => by
    have h : _ = _ := h
    subst h
    exact h'
  | x :: xs, ys, a, b, c, ⟨e1, e2, h1, h2, h3⟩, h' => ⟨e1, e2, h1, h2, Goes.append h3 h'⟩
theorem Goes.one {gd : D → En → Option En} {g : En → Option Out} {d : D} {a b e1 : En} (h : gd d a = some e1) (h' : g e1 = some (.nx b)) : Goes gd g [d] a b := ⟨e1, b, h, .inl h', rfl⟩
theorem Goes.go {gd : D → En → Option En} {g : En → Option Out} : ∀ {xs : List D} {a b : En}, Goes gd g xs a b → forGo gd g xs a = some (.nx b)
  | [], _, _, h => by
    have h : _ = _ := h
    subst h
    rfl
  | x :: xs, a, b, ⟨e1, e2, h1, h2, h3⟩ => by
    show (gd x a).bind _ = _
    rw [h1]
    show (g e1).bind _ = _
    rcases h2 with h2 | h2
    · rw [h2]
      exact Goes.go h3
    · rw [h2]
      exact Goes.go h3
end C

namespace C
open PySem DD L2
abbrev XY := Nat × Nat
def cD (q : XY) : D := .tup [natD q.1, natD q.2]
def cellRow (r : Rc) (i : Nat) : List XY := (List.range r.w).map fun j => (r.t + i, r.l + j)
def cellsR (r : Rc) : List XY := (List.range r.h).flatMap (cellRow r)
theorem mem_cells {r : Rc} {q : XY} : q ∈ cellsR r ↔ inR q.1 q.2 r = true := by
  unfold cellsR inR cellRow
  rw [List.mem_flatMap, decide_eq_true_eq]
  constructor
  · rintro ⟨i, hi, h⟩
    obtain ⟨j, hj, rfl⟩ := List.mem_map.mp h
    have := List.mem_range.mp hi
    have := List.mem_range.mp hj
    show r.t ≤ r.t + i ∧ r.t + i < r.t + r.h ∧ r.l ≤ r.l + j ∧ r.l + j < r.l + r.w
    omega
  · rintro ⟨h1, h2, h3, h4⟩
    refine ⟨q.1 - r.t, List.mem_range.mpr (by omega), List.mem_map.mpr ⟨q.2 - r.l, List.mem_range.mpr (by omega), ?_⟩⟩
    show (r.t + (q.1 - r.t), r.l + (q.2 - r.l)) = q
    rw [show r.t + (q.1 - r.t) = q.1 by omega, show r.l + (q.2 - r.l) = q.2 by omega]
theorem cells_some (r : Rc) (n : Nat) : ((List.range n).flatMap (cellRow r)).length = n * r.w := by
  induction n with
  | zero => rw [Nat.zero_mul] <;> rfl
  | succ n ih =>
    rw [List.range_succ, List.flatMap_append, List.length_append, ih, Nat.succ_mul, List.flatMap_cons, List.flatMap_nil, List.append_nil]
    unfold cellRow
    rw [List.length_map, List.length_range]
theorem cells_len (r : Rc) : (cellsR r).length = r.h * r.w := cells_some r r.h
def Lo (r : Rc) : Prop := r.t ≤ 900 ∧ r.l ≤ 900 ∧ r.h ≤ 30 ∧ r.w ≤ 30
abbrev KL := List Key
def keyL (q : XY) : KL := [.inl (q.1 : Int), .inl (q.2 : Int)]
theorem keyL_inj {p q : XY} : keyL p = keyL q ↔ p = q := by
  constructor
  · intro h
    have h1 : (Sum.inl (p.1 : Int) : Key) = Sum.inl (q.1 : Int) := (List.cons.inj h).1
    have h2 : (Sum.inl (p.2 : Int) : Key) = Sum.inl (q.2 : Int) := (List.cons.inj (List.cons.inj h).2).1
    have h1 := Sum.inl.inj h1
    have h2 := Sum.inl.inj h2
    exact Prod.ext (by omega) (by omega)
  · rintro rfl
    rfl
theorem look_put {κ : Type} [DecidableEq κ] (k : κ) (x : D) : ∀ (ks : List κ) (ds : List D), ds.length = ks.length → ∀ j, lookG (putG ks ds k x).1 (putG ks ds k x).2 j = if k = j then some x else lookG ks ds j
  | [], [], _, j => rfl
  | a :: ks, d :: ds, h, j => by
    have ih := look_put k x ks ds (by simpa using h) j
    by_cases e : a = k
    · subst e
      have e1 : putG (a :: ks) (d :: ds) a x = (a :: ks, x :: ds) := if_pos rfl
      rw [e1]
      show (if a = j then some x else lookG ks ds j) = if a = j then some x else if a = j then some d else lookG ks ds j
      split
      · rfl
      · rfl
    · have e1 : putG (a :: ks) (d :: ds) k x = (a :: (putG ks ds k x).1, d :: (putG ks ds k x).2) := if_neg e
      rw [e1]
      show (if a = j then some d else lookG (putG ks ds k x).1 (putG ks ds k x).2 j) = if k = j then some x else if a = j then some d else lookG ks ds j
      rw [ih]
      by_cases e2 : a = j
      · rw [if_pos e2, if_pos e2, if_neg fun z => e (e2.trans z.symm)]
      · rw [if_neg e2, if_neg e2]
theorem put_keys {κ : Type} [DecidableEq κ] (k : κ) (x : D) : ∀ (ks : List κ) (ds : List D), ds.length = ks.length → (putG ks ds k x).1 = (if k ∈ ks then ks else ks ++ [k]) ∧ (putG ks ds k x).2.length = (putG ks ds k x).1.length
  | [], [], _ => ⟨rfl, rfl⟩
  | a :: ks, d :: ds, h => by
    obtain ⟨i1, i2⟩ := put_keys k x ks ds (by simpa using h)
    by_cases e : a = k
    · subst e
      have e1 : putG (a :: ks) (d :: ds) a x = (a :: ks, x :: ds) := if_pos rfl
      rw [e1, if_pos List.mem_cons_self]
      exact ⟨rfl, by simpa using h⟩
    · have e1 : putG (a :: ks) (d :: ds) k x = (a :: (putG ks ds k x).1, d :: (putG ks ds k x).2) := if_neg e
      rw [e1]
      refine ⟨?_, by simpa using i2⟩
      show a :: (putG ks ds k x).1 = _
      rw [i1]
      by_cases m : k ∈ ks
      · rw [if_pos m, if_pos (List.mem_cons_of_mem _ m)]
      · rw [if_neg m, if_neg (fun z => (List.mem_cons.mp z).elim (fun z => e z.symm) m)] <;> rfl
structure Own (ks : List KL) (ds : List D) (n : Nat) (f : XY → Option D) : Prop where
  len : ds.length = ks.length
  nd : ks.Nodup
  most : ks.length ≤ n
  at_ : ∀ q, lookG ks ds (keyL q) = f q
theorem Own.put {ks : List KL} {ds : List D} {n : Nat} {f : XY → Option D} (o : Own ks ds n f) (q : XY) (x : D) : Own (putG ks ds (keyL q) x).1 (putG ks ds (keyL q) x).2 (n + 1) (fun p => if q = p then some x else f p) := by
  obtain ⟨e1, e2⟩ := put_keys (keyL q) x ks ds o.len
  refine ⟨e2, ?_, ?_, fun p => ?_⟩
  · rw [e1]
    split
    · exact o.nd
    · rename_i m
      rw [List.nodup_append]
      exact ⟨o.nd, List.nodup_cons.mpr ⟨List.not_mem_nil, List.nodup_nil⟩, fun a ha b hb z => m (by rw [List.mem_singleton] at hb; rw [← hb, ← z]; exact ha)⟩
  · rw [e1]
    have := o.most
    split
    · omega
    · rw [List.length_append, List.length_singleton]
      omega
  · rw [look_put _ _ _ _ o.len, o.at_]
    by_cases e : q = p
    · rw [if_pos e, if_pos (keyL_inj.mpr e)]
    · rw [if_neg e, if_neg fun z => e (keyL_inj.mp z)]
theorem Own.congr {ks : List KL} {ds : List D} {n m : Nat} {f g : XY → Option D} (o : Own ks ds n f) (h : ∀ q, f q = g q) (hm : n ≤ m) : Own ks ds m g := ⟨o.len, o.nd, Nat.le_trans o.most hm, fun q => (o.at_ q).trans (h q)⟩
def whose (ps : List Rc) (n : Nat) (q : XY) : Option Nat := ((List.range n).filter fun i => inR q.1 q.2 (ps.getD i rc0)).getLast?
theorem TileR.whose {R : Rc} {ps : List Rc} (k : TileR R ps) {i : Nat} (hi : i < ps.length) {q : XY} (hq : inR q.1 q.2 (ps.getD i rc0) = true) : whose ps ps.length q = some i := by
  have ei : ps[i]? = some (ps.getD i rc0) := by rw [List.getD_eq_getElem?_getD, List.getElem?_eq_getElem hi] <;> rfl
  have only : ∀ j, j < ps.length → inR q.1 q.2 (ps.getD j rc0) = true → j = i := fun j hj h => by
    have ej : ps[j]? = some (ps.getD j rc0) := by rw [List.getD_eq_getElem?_getD, List.getElem?_eq_getElem hj] <;> rfl
    exact k.apart ej ei h hq
  unfold C.whose
  cases e : ((List.range ps.length).filter fun i => inR q.1 q.2 (ps.getD i rc0)).getLast? with
  | none =>
    have m : i ∈ (List.range ps.length).filter fun i => inR q.1 q.2 (ps.getD i rc0) := List.mem_filter.mpr ⟨List.mem_range.mpr hi, hq⟩
    rw [List.getLast?_eq_none_iff.mp e] at m
    exact absurd m List.not_mem_nil
  | some j =>
    have m := List.mem_of_getLast? e
    obtain ⟨m1, m2⟩ := List.mem_filter.mp m
    rw [only j (List.mem_range.mp m1) m2]
end C

namespace C
open PySem DD L2
def g_cells_of : En → Option Out := (sSeq (sAsgG (dVar 0) (gTupD (gsCons (gSet 1) (gsCons (gSet 2) (gsCons (gSet 3) (gsCons (gSet 4) gsNil)))) 4))
 (sRet (dL (lLc2 (iR2 (aCons (dVar 1) (aCons (d2 gAdd (dVar 1) (dVar 3)) aNil))) (gSet 5) fYes (iR2 (aCons (dVar 2) (aCons (d2 gAdd (dVar 2) (dVar 4)) aNil))) (gSet 6) fYes (dTup (aCons (dVar 5) (aCons (dVar 6) aNil))) [5, 6] [6]))))
def F_cells_of : List D → Option D := runD g_cells_of 7 1
def g_can_be_cut : En → Option Out := (sSeq (sSet 2 (dL (lLc (iAny (dCall F_cells_of (aCons (dVar 1) aNil))) (gTupD (gsCons (gSet 3) (gsCons (gSet 4) gsNil)) 2) fYes (d2 gIx (d2 gIx (dVar 0) (dVar 3)) (dVar 4)) [3, 4])))
 (sRet (dOr2 (d2 gEq (dCB gLen (aCons (dVar 2) aNil)) (dC (.int 1))) (dAnd2 (dCall F_is_fabric (aCons (d2 gIx (dVar 2) (dC (.int 0))) aNil)) (dCB gAll (aCons (dL (lLc (iAny (dVar 2)) (gSet 5) fYes (d2 gEq (dVar 5) (d2 gIx (dVar 2) (dC (.int 0)))) [5])) aNil))))))
def F_can_be_cut : List D → Option D := runD g_can_be_cut 6 2
def g_fits : En → Option Out := (sRet (dAnd2 (d2 gEq (dCall F_sides (aCons (dVar 1) aNil)) (dCall F_size_of (aCons (dVar 0) aNil))) (dCB gAll (aCons (dL (lLc (iAny (dVar 1)) (gSet 2) fYes (dCall F_can_be_cut (aCons (dVar 0) (aCons (dVar 2) aNil))) [2])) aNil))))
def F_fits : List D → Option D := runD g_fits 3 2
def Fab : Cell → Bool
  | .pl _ => true
  | .dg _ _ _ => false
def Let (c : Cell) : Prop := match c with
  | .pl a => 97 ≤ a ∧ a ≤ 122
  | .dg a _ b => a < 1000 ∧ b < 1000
theorem let_small {c : Cell} (h : Let c) : SmallC c := by
  cases c with
  | pl a => have h : 97 ≤ a ∧ a ≤ 122 := h; exact ⟨show a < 1000 by omega, show a < 1000 by omega⟩
  | dg a s b => exact h
theorem is_fabric_ok {c : Cell} (h : Let c) : F_is_fabric [.str c.s] = some (.bl (Fab c)) := by
  refine run_rt rfl ?_
  unfold g_is_fabric
  cases c with
  | pl a =>
    have h : 97 ≤ a ∧ a ≤ 122 := h
    have hm : ∀ a < 123, 97 ≤ a → decide (a ∈ ("abcdefghijklmnopqrstuvwxyz" : Str).cps.toList) = true := by decide
    show ((((gEq (.int 1) (.int 1)).bind _).bind fun c => if c = true then some (D.bl (decide (a ∈ ("abcdefghijklmnopqrstuvwxyz" : Str).cps.toList))) else some (.bl false)).map Out.rt) = _
    rw [gEq_int, hm a (by omega) h.1] <;> rfl
  | dg a s b =>
    show ((((gEq (.int 3) (.int 1)).bind _).bind fun c => if c = true then _ else some (.bl false)).map Out.rt) = _
    rw [gEq_int] <;> rfl
theorem gEq_cell {a b : Cell} (ha : SmallC a) (hb : SmallC b) : gEq (strC a) (strC b) = some (.bl (decide (a = b))) := by
  have d : ∀ {c : Cell}, SmallC c → deep 60 (strC c) = true := fun {c} h => by
    rw [deep_str]
    obtain ⟨h1, h2⟩ := h
    cases c with
    | pl a =>
      have h1 : a < 1000 := h1
      simp [PyData.strOk, Cell.s]
      omega
    | dg a s b =>
      have h1 : a < 1000 := h1
      have h2 : b < 1000 := h2
      cases s <;> simp [PyData.strOk, Cell.s] <;> omega
  unfold gEq
  rw [if_pos ⟨d ha, d hb⟩, eqv_cell]
theorem lc2_gen {α β : Type} {en : En} {gd : D → En → Option En} {fi1 : En → Option (List D)} {gd1 : D → En → Option En} {fe : En → Option D} {vs1 : List Nat} (f : α → D) (g : α → List β) (k1 k2 : α → β → D) : ∀ (xs : List α), (∀ x ∈ xs, ∃ en1, gd (f x) en = some en1 ∧ calmE en1 = true ∧ fi1 en1 = some ((g x).map (k1 x)) ∧ ∀ y ∈ g x, ∃ en2, gd1 (k1 x y) (wipeE en1 vs1) = some en2 ∧ fe en2 = some (k2 x y)) →
    lc2Go gd fYes fi1 gd1 fYes fe vs1 en (xs.map f) = some (xs.flatMap fun x => (g x).map (k2 x))
  | [], _ => rfl
  | x :: r, H => by
    obtain ⟨en1, h1, h2, h3, h4⟩ := H x List.mem_cons_self
    rw [List.map_cons]
    unfold lc2Go
    rw [h1]
    show (if calmE en1 = true then _ else none) = _
    rw [if_pos h2]
    show ((fi1 en1).bind fun ds1 => (lcGo gd1 fYes fe (wipeE en1 vs1) ds1).bind fun ys => (lc2Go gd fYes fi1 gd1 fYes fe vs1 en (r.map f)).map fun zs => ys ++ zs) = _
    rw [h3]
    show ((lcGo gd1 fYes fe (wipeE en1 vs1) ((g x).map (k1 x))).bind fun ys => (lc2Go gd fYes fi1 gd1 fYes fe vs1 en (r.map f)).map fun zs => ys ++ zs) = _
    rw [lcGo_xs (k1 x) (k2 x) (g x) h4, lc2_gen f g k1 k2 r fun y hy => H y (List.mem_cons_of_mem _ hy)] <;> rfl
theorem cells_of_ok {r : Rc} (k : Lo r) : F_cells_of [rcD r] = some (.lst ((cellsR r).map cD)) := by
  obtain ⟨k1, k2, k3, k4⟩ := k
  let E : Sl → Sl → En := fun a b => [.dat (rcD r), .dat (natD r.t), .dat (natD r.l), .dat (natD r.h), .dat (natD r.w), a, b]
  have hi1 : ∀ a b, iR2 (aCons (dVar 1) (aCons (d2 gAdd (dVar 1) (dVar 3)) aNil)) (E a b) = some ((List.range r.h).map fun i : Nat => natD (r.t + i)) := fun a b => by
    have := range_nat (fr := aCons (dVar 1) (aCons (d2 gAdd (dVar 1) (dVar 3)) aNil)) (en := E a b) (lo := r.t) (hi := r.t + r.h) rfl (by omega) (by omega)
    rw [show r.t + r.h - r.t = r.h by omega, List.map_map] at this
    exact this
  have hi2 : ∀ a b, iR2 (aCons (dVar 2) (aCons (d2 gAdd (dVar 2) (dVar 4)) aNil)) (E a b) = some ((List.range r.w).map fun i : Nat => natD (r.l + i)) := fun a b => by
    have := range_nat (fr := aCons (dVar 2) (aCons (d2 gAdd (dVar 2) (dVar 4)) aNil)) (en := E a b) (lo := r.l) (hi := r.l + r.w) rfl (by omega) (by omega)
    rw [show r.l + r.w - r.l = r.w by omega, List.map_map] at this
    exact this
  have g := lc2_gen (en := E .no .no) (gd := gSet 5) (fi1 := iR2 (aCons (dVar 2) (aCons (d2 gAdd (dVar 2) (dVar 4)) aNil))) (gd1 := gSet 6) (fe := dTup (aCons (dVar 5) (aCons (dVar 6) aNil))) (vs1 := [6]) (fun i : Nat => natD (r.t + i)) (fun _ => List.range r.w) (fun _ j => natD (r.l + j)) (fun i j => cD (r.t + i, r.l + j)) (List.range r.h) (fun i _ => ⟨E (.dat (natD (r.t + i))) .no, rfl, rfl, hi2 _ _, fun j _ => ⟨_, rfl, rfl⟩⟩)
  have ee : ((List.range r.h).flatMap fun i => (List.range r.w).map fun j => cD (r.t + i, r.l + j)) = (cellsR r).map cD := by
    unfold cellsR
    rw [List.map_flatMap]
    congr 1
    funext i
    unfold cellRow
    rw [List.map_map] <;> rfl
  rw [ee] at g
  have hl : ((cellsR r).map cD).length ≤ 900 := by
    rw [List.length_map, cells_len]
    exact Nat.le_trans (Nat.mul_le_mul k3 k4) (by decide)
  have e : lLc2 (iR2 (aCons (dVar 1) (aCons (d2 gAdd (dVar 1) (dVar 3)) aNil))) (gSet 5) fYes (iR2 (aCons (dVar 2) (aCons (d2 gAdd (dVar 2) (dVar 4)) aNil))) (gSet 6) fYes (dTup (aCons (dVar 5) (aCons (dVar 6) aNil))) [5, 6] [6] (E .no .no) = some ((cellsR r).map cD) := by
    unfold lLc2
    rw [hi1]
    show ((lc2Go _ _ _ _ _ _ _ (E .no .no) _).bind _) = _
    rw [g]
    show (if ((cellsR r).map cD).length ≤ lim then _ else none) = _
    have hlim : (1000 : Nat) ≤ lim := by decide
    rw [if_pos (by omega)]
  exact run_rt rfl (seq (en' := E .no .no) rfl (ret_of (dL_of e)))
theorem bools_map {α : Type} (b : α → Bool) : ∀ xs : List α, boolsOf (xs.map fun x => D.bl (b x)) = some (xs.map b)
  | [] => rfl
  | x :: xs => by
    show (boolsOf (xs.map fun x => D.bl (b x))).map (b x :: ·) = _
    rw [bools_map b xs] <;> rfl
structure PatL (h w : Nat) (p : List (List Cell)) : Prop where
  rect : Rect h w p
  let_ : ∀ x y, x < h → y < w → Let (at2 p x y)
  h1 : 1 ≤ h
  h10 : h ≤ 10
  w1 : 1 ≤ w
  w10 : w ≤ 10
section
variable {h w : Nat} {p : List (List Cell)}
theorem pat_at (k : PatL h w p) {x y : Nat} (hx : x < h) (hy : y < w) : ((gIx (patC p) (natD x)).bind fun z => gIx z (natD y)) = some (strC (at2 p x y)) := by
  have hl : x < p.length := by rw [k.rect.rows]; exact hx
  have hw : y < p[x].length := by rw [k.rect.cols _ (List.getElem_mem hl)]; exact hy
  have e1 : gIx (patC p) (natD x) = some (rowC p[x]) := patC_at hl
  rw [e1]
  show gIx (rowC p[x]) (.int (y : Int)) = _
  rw [rowC_at hw, at2_eq hl hw]
structure One (h w : Nat) (p : List (List Cell)) (r : Rc) : Prop where
  h1 : 1 ≤ r.h
  w1 : 1 ≤ r.w
  th : r.t + r.h ≤ h
  lw : r.l + r.w ≤ w
  one : (r.h = 1 ∧ r.w = 1) ∨ ∃ c, Fab c = true ∧ ∀ x y, inR x y r = true → at2 p x y = c
theorem first_cell {r : Rc} (h1 : 1 ≤ r.h) (w1 : 1 ≤ r.w) : (cellsR r)[0]? = some (r.t, r.l) := by
  obtain ⟨m, hm⟩ : ∃ m, r.h = m + 1 := ⟨r.h - 1, by omega⟩
  obtain ⟨n, hn⟩ : ∃ n, r.w = n + 1 := ⟨r.w - 1, by omega⟩
  unfold cellsR cellRow
  rw [hm, hn, List.range_succ_eq_map, List.range_succ_eq_map] <;> rfl
theorem can_be_cut_ok (k : PatL h w p) {r : Rc} (i : One h w p r) : F_can_be_cut [patC p, rcD r] = some (.bl true) := by
  have hw := i.th
  have hl := i.lw
  have i1 := i.h1
  have i2 := i.w1
  have w10 := k.w10
  have h10 := k.h10
  have lo : Lo r := ⟨by omega, by omega, by omega, by omega⟩
  have hlen : (cellsR r).length ≤ 100 := by
    rw [cells_len]
    exact Nat.mul_le_mul (show r.h ≤ 10 by omega) (show r.w ≤ 10 by omega)
  have cin : ∀ q ∈ cellsR r, q.1 < h ∧ q.2 < w := fun q hq => by
    have := mem_cells.mp hq
    unfold inR at this
    rw [decide_eq_true_eq] at this
    omega
  let V : D := .lst ((cellsR r).map fun q => strC (at2 p q.1 q.2))
  let E : Sl → En := fun c => [.dat (patC p), .dat (rcD r), .dat V, .no, .no, c]
  have g1 : sSet 2 (dL (lLc (iAny (dCall F_cells_of (aCons (dVar 1) aNil))) (gTupD (gsCons (gSet 3) (gsCons (gSet 4) gsNil)) 2) fYes (d2 gIx (d2 gIx (dVar 0) (dVar 3)) (dVar 4)) [3, 4])) [.dat (patC p), .dat (rcD r), .no, .no, .no, .no] = some (.nx (E .no)) :=
    set_of (dL_of (lc_all (cellsR r) cD (fun q => strC (at2 p q.1 q.2)) (any_lst (call_of (a_one rfl) (cells_of_ok lo))) (by omega) fun q hq => ⟨_, rfl, pat_at k (cin q hq).1 (cin q hq).2⟩))
  have len : gLen [V] = some (natD (r.h * r.w)) := by
    show some (D.int (((cellsR r).map fun q => strC (at2 p q.1 q.2)).length : Int)) = _
    rw [List.length_map, cells_len] <;> rfl
  by_cases c1 : r.h * r.w = 1
  · have t : d2 gEq (dCB gLen (aCons (dVar 2) aNil)) (dC (.int 1)) (E .no) = some (.bl true) := by
      refine (d2_of (y := natD 1) (cb_of (a_one rfl) len) rfl (eq_nat _ 1)).trans ?_
      rw [decide_eq_true c1]
    refine run_rt rfl (seq g1 (ret_of ?_))
    show ((tBl (d2 gEq (dCB gLen (aCons (dVar 2) aNil)) (dC (.int 1))) (E .no)).bind fun b => if b = true then some (D.bl true) else _) = _
    rw [bl_of t] <;> rfl
  · obtain ⟨c, hc, hu⟩ : ∃ c, Fab c = true ∧ ∀ x y, inR x y r = true → at2 p x y = c := by
      rcases i.one with z | z
      · exact absurd (by rw [z.1, z.2]) c1
      · exact z
    have hV : ∀ q ∈ cellsR r, at2 p q.1 q.2 = c := fun q hq => hu q.1 q.2 (mem_cells.mp hq)
    have lc : Let c := by
      have m : (r.t, r.l) ∈ cellsR r := mem_at (first_cell i1 i2)
      have := k.let_ r.t r.l (cin _ m).1 (cin _ m).2
      rwa [hV _ m] at this
    have h0 : ∀ s, d2 gIx (dVar 2) (dC (.int 0)) (E s) = some (strC c) := fun s => by
      show atI ((cellsR r).map fun q => strC (at2 p q.1 q.2)) ((0 : Nat) : Int) = _
      rw [atI_map, first_cell i1 i2]
      show some (strC (at2 p r.t r.l)) = _
      rw [hV (r.t, r.l) (mem_at (first_cell i1 i2))]
    have t : d2 gEq (dCB gLen (aCons (dVar 2) aNil)) (dC (.int 1)) (E .no) = some (.bl false) := by
      refine (d2_of (y := natD 1) (cb_of (a_one rfl) len) rfl (eq_nat _ 1)).trans ?_
      rw [decide_eq_false c1]
    have f1 : dCall F_is_fabric (aCons (d2 gIx (dVar 2) (dC (.int 0))) aNil) (E .no) = some (.bl true) := by
      refine (call_of (a_one (h0 .no)) (is_fabric_ok lc)).trans ?_
      rw [hc]
    have f2 : dCB gAll (aCons (dL (lLc (iAny (dVar 2)) (gSet 5) fYes (d2 gEq (dVar 5) (d2 gIx (dVar 2) (dC (.int 0)))) [5])) aNil) (E .no) = some (.bl true) := by
      refine cb_of (a_one (dL_of (lc_all (cellsR r) (fun q => strC (at2 p q.1 q.2)) (fun _ => D.bl true) rfl (by omega) fun q hq => ⟨E (.dat (strC (at2 p q.1 q.2))), rfl, ?_⟩))) ?_
      · refine (d2_of rfl (h0 _) (gEq_cell (let_small (by rw [hV q hq]; exact lc)) (let_small lc))).trans ?_
        rw [decide_eq_true (hV q hq)]
      · show (boolsOf ((cellsR r).map fun _ => D.bl true)).map (fun ns => D.bl (ns.all id)) = _
        rw [bools_map (fun _ => true)]
        show some (D.bl (((cellsR r).map fun _ => true).all id)) = _
        rw [List.all_map]
        congr 2
        exact List.all_eq_true.mpr fun _ _ => rfl
    refine run_rt rfl (seq g1 (ret_of ((dor_of t (dand_of f1 f2)).trans rfl)))
theorem gEq_twoN (a b : Nat) : gEq (.tup [natD a, natD b]) (.tup [natD a, natD b]) = some (.bl true) := by
  have d : deep 60 (.tup [natD a, natD b]) = true := deep_tup.mpr fun d hd => by
    rcases List.mem_cons.mp hd with rfl | hd
    · exact deep_int
    · rw [List.mem_singleton.mp hd]; exact deep_int
  unfold gEq
  rw [if_pos ⟨d, d⟩, eqv_same _ _ d]
theorem fits_ok {ps : List Rc} (kt : TileR ⟨0, 0, h, w⟩ ps) (n : ps.length ≤ 200) (k : PatL h w p) (o : ∀ r ∈ ps, One h w p r) : F_fits [patC p, psD ps] = some (.bl true) := by
  have f1 : d2 gEq (dCall F_sides (aCons (dVar 1) aNil)) (dCall F_size_of (aCons (dVar 0) aNil)) [.dat (patC p), .dat (psD ps), .no] = some (.bl true) :=
    d2_of (call_of (a_one rfl) (sides_ok true kt k.h1 k.w1 (by omega))) (call_of (a_one rfl) (size_of_ok true k.rect k.h1 k.h10 k.w10)) (gEq_twoN h w)
  have f2 : dCB gAll (aCons (dL (lLc (iAny (dVar 1)) (gSet 2) fYes (dCall F_can_be_cut (aCons (dVar 0) (aCons (dVar 2) aNil))) [2])) aNil) [.dat (patC p), .dat (psD ps), .no] = some (.bl true) := by
    refine cb_of (a_one (dL_of (lc_all ps rcD (fun _ => D.bl true) rfl (by omega) fun r hr => ⟨_, rfl, call_of (a_two rfl rfl) (can_be_cut_ok k (o r hr))⟩))) ?_
    show (boolsOf (ps.map fun _ => D.bl true)).map (fun ns => D.bl (ns.all id)) = _
    rw [bools_map (fun _ => true)]
    show some (D.bl ((ps.map fun _ => true).all id)) = _
    rw [List.all_map]
    congr 2
    exact List.all_eq_true.mpr fun _ _ => rfl
  exact run_rt rfl (ret_of (dand_of f1 f2))
end
end C

namespace C
open PySem DD L2
end C

namespace C
open PySem DD L2
def inb (S r : Rc) : Bool := decide (S.t ≤ r.t ∧ r.t + r.h ≤ S.t + S.h ∧ S.l ≤ r.l ∧ r.l + r.w ≤ S.l + S.w)
end C

namespace C
open PySem DD L2
def ovl (a b : Rc) : Bool := decide (0 < ov false a b) && decide (0 < ov true a b)
def mem (ps : List Rc) (S : Rc) : List Nat := whereP (fun r => ovl r S) ps
theorem zip_range {α : Type} (z : α) (xs : List α) : xs.zipIdx = (List.range xs.length).map fun j => (xs.getD j z, j) := by
  refine List.ext_getElem? fun i => ?_
  rw [List.getElem?_zipIdx, List.getElem?_map]
  by_cases h : i < xs.length
  · rw [List.getElem?_eq_getElem h, List.getElem?_range h]
    show some (xs[i], 0 + i) = some (xs.getD i z, i)
    rw [List.getD_eq_getElem?_getD, List.getElem?_eq_getElem h, Nat.zero_add] <;> rfl
  · rw [List.getElem?_eq_none (by omega), List.getElem?_eq_none (by rw [List.length_range]; omega)] <;> rfl
theorem where_range {α : Type} (P : α → Bool) (z : α) (xs : List α) : (List.range xs.length).filter (fun j => P (xs.getD j z)) = whereP P xs := by
  unfold whereP
  rw [zip_range z, List.filter_map, List.map_map]
  exact (List.map_id _).symm
theorem mem_iff {ps : List Rc} {S : Rc} {i : Nat} : i ∈ mem ps S ↔ i < ps.length ∧ ovl (ps.getD i rc0) S = true := by
  unfold mem
  rw [← where_range _ rc0, List.mem_filter, List.mem_range]
instance : DecidableEq Rc := fun a b => decidable_of_iff (a.t = b.t ∧ a.l = b.l ∧ a.h = b.h ∧ a.w = b.w) ⟨fun h => Rc.ext h.1 h.2.1 h.2.2.1 h.2.2.2, fun h => by subst h; exact ⟨rfl, rfl, rfl, rfl⟩⟩
end C

namespace C
open PySem DD L2
def ins (S : Rc) (ps : List Rc) : List Rc := ps.filter fun r => ovl r S
theorem Sew.seam {S : Rc} {qs : List Rc} (s : Sew S qs) (h : seams S qs = []) : qs.length = 1 := by
  cases s with
  | one h => exact h
  | @cut _ _ v p sm _ _ =>
    have : (v, p) ∈ seams S qs := mem_seams.mpr sm
    rw [h] at this
    exact absurd this List.not_mem_nil
end C

namespace C
open PySem DD L2
structure CoreOf (R : Rc) (ps : List Rc) (S : Rc) : Prop where
  t : TileR S (ins S ps)
  h : 1 ≤ S.h
  w : 1 ≤ S.w
  no : seams S (ins S ps) = []
  i : inb R S = true
  two : (ins S ps).length ≠ 1
end C

namespace C
open PySem DD L2
theorem dig_of {fa : En → Option D} {en : En} {ds : List Int} {i a : Nat} (h : fa en = some (.lst (ds.map D.int))) (q : ds[i]? = some (a : Int)) : d2 gIx fa (dC (.int (i : Int))) en = some (natD a) := d2_of (y := natD i) h rfl (at_ints q)
end C

namespace C
open PySem DD L2
def posLt (a b : XY) : Prop := a.1 < b.1 ∨ (a.1 = b.1 ∧ a.2 < b.2)
instance (a b : XY) : Decidable (posLt a b) := inferInstanceAs (Decidable (_ ∨ _))
def tlOf (s : Rc) : XY := (s.t, s.l)
structure Srt (R : Rc) (S : List Rc) : Prop where
  tile : TileR R S
  asc : S.Pairwise fun a b => posLt (tlOf a) (tlOf b)
theorem Srt.on {R : Rc} {S : List Rc} (k : Srt R S) {r c : Nat} (h : inR r c R = true) : ∃ (j : Nat) (s : Rc), S[j]? = some s ∧ inR r c s = true := by
  obtain ⟨s, hs, hi⟩ := k.tile.at h
  obtain ⟨j, hj⟩ := List.getElem?_of_mem hs
  exact ⟨j, s, hj, hi⟩
end C

namespace C
open PySem DD L2
def nmC (k : Nat) : Nat := if k < 26 then 65 + k else 97 + (k - 26)
def gT (H W : Nat) (G : Nat → Nat → D) : DD.Tr := rowsT ((List.range H).map fun x => (List.range W).map fun y => G x y)
end C

namespace C
open PySem DD L2
end C

namespace C
open PySem DD L2
structure Word (r : Rc) (c : Cell) : Prop where
  let_ : Let c
  one : (r.h = 1 ∧ r.w = 1) ∨ Fab c = true
structure Wh (H W : Nat) (p : List (List Cell)) (ps : List Rc) : Prop where
  pat : PatL H W p
  tile : TileR ⟨0, 0, H, W⟩ ps
  one : ∀ r ∈ ps, One H W p r
end C

namespace C
open PySem DD L2
section
variable {H W : Nat}
theorem sl2 {m : Nat} (h : m < 2) : ∃ s : Bool, gIx (.str "/\\") (natD m) = some (strS [if s then 92 else 47]) := by
  match m, h with
  | 0, _ => exact ⟨false, rfl⟩
  | 1, _ => exact ⟨true, rfl⟩
def gW (ps : List Rc) (ws : List Cell) (n : Nat) (x y : Nat) : D := match whose ps n (x, y) with
  | some i => strC (ws.getD i cz)
  | none => .str "a"
end
end C

namespace DD
open PySem L2
section
variable {en en' : En} {i j : Nat} {d x y z : D} {ds ds' fs : List D} {f fa fb fc : En → Option D} {g : En → Option (List D)} {k : D → En → Option Out} {c : Str} {ns : List Str} {o : Option Out} {F : List D → Option D} {out : List D → Option D}
end
end DD

namespace C
open PySem DD L2
structure RowsOk (H W : Nat) (ls : List (List Nat)) : Prop where
  len : ls.length = H
  wid : ∀ l ∈ ls, l.length = W
  nam : ∀ l ∈ ls, ∀ c ∈ l, ∃ k, k < 52 ∧ c = nmC k
  h1 : 1 ≤ H
  h10 : H ≤ 10
  w1 : 1 ≤ W
  w10 : W ≤ 10
section
variable {H W : Nat} {ls : List (List Nat)}
end
def leR (a b : Rc) : Bool := decide (a.t < b.t ∨ (a.t = b.t ∧ (a.l < b.l ∨ (a.l = b.l ∧ (a.h < b.h ∨ (a.h = b.h ∧ a.w ≤ b.w))))))
theorem lt4 {x y z v x' y' z' v' : Nat} : PySem.W.dataLt (.tuple [.int (x : Int), .int (y : Int), .int (z : Int), .int (v : Int)]) (.tuple [.int (x' : Int), .int (y' : Int), .int (z' : Int), .int (v' : Int)]) = if x = x' then (if y = y' then (if z = z' then (if v = v' then false else decide (v < v')) else decide (z < z')) else decide (y < y')) else decide (x < x') := by
  have al : ∀ x y : Int, PySem.W.alike (.int x) (.int y) = true := fun _ _ => by simp [PySem.W.alike]
  have eq : ∀ x y : Nat, PyData.eqv (.int (x : Int)) (.int (y : Int)) = decide (x = y) := fun x y => by
    simp only [PyData.eqv]
    by_cases h : x = y
    · subst h; simp
    · rw [decide_eq_false h]
      exact beq_false_of_ne fun z => h (by omega)
  have lt : ∀ x y : Nat, PySem.W.dataLt (.int (x : Int)) (.int (y : Int)) = decide (x < y) := fun x y => by
    rw [PySem.W.dataLt_int]
    exact decide_eq_decide.mpr (by omega)
  rw [PySem.W.dataLt_tuple, PySem.W.dataLt_cons (al _ _), PySem.W.dataLt_cons (al _ _), PySem.W.dataLt_cons (al _ _), PySem.W.dataLt_cons (al _ _), eq, eq, eq, eq, lt, lt, lt, lt]
  rw [show PyProof.Rows.lexLt PyProof.Rows.itemOrd (PySem.W.keyToksAll []) (PySem.W.keyToksAll []) = false from PyProof.Rows.lex_irrefl _]
  simp only [decide_eq_true_eq]
theorem le_rcD (a b : Rc) : leD (rcD a) (rcD b) = leR a b := by
  show (!PySem.W.dataLt (py (rcD b)) (py (rcD a))) = _
  have e : ∀ z : Rc, py (rcD z) = .tuple [.int (z.t : Int), .int (z.l : Int), .int (z.h : Int), .int (z.w : Int)] := fun z => by simp [rcD, py, pyAll]
  rw [e, e, lt4]
  unfold leR
  by_cases h1 : b.t = a.t
  · rw [if_pos h1]
    by_cases h2 : b.l = a.l
    · rw [if_pos h2]
      by_cases h3 : b.h = a.h
      · rw [if_pos h3]
        by_cases h4 : b.w = a.w
        · rw [if_pos h4, decide_eq_true (by omega)] <;> rfl
        · rw [if_neg h4, ← decide_not]
          exact decide_eq_decide.mpr (by omega)
      · rw [if_neg h3, ← decide_not]
        exact decide_eq_decide.mpr (by omega)
    · rw [if_neg h2, ← decide_not]
      exact decide_eq_decide.mpr (by omega)
  · rw [if_neg h1, ← decide_not]
    exact decide_eq_decide.mpr (by omega)
theorem srt_ok4 (ps : List Rc) : srtOk (ps.map rcD) = true := by
  unfold srtOk
  have dp : deepAll 58 (ps.map rcD) = true := deepAll_iff.mpr fun d hd => by
    obtain ⟨z, _, rfl⟩ := List.mem_map.mp hd
    exact deep_tup.mpr fun d hd => by
      rcases List.mem_cons.mp hd with rfl | hd
      · exact deep_int
      rcases List.mem_cons.mp hd with rfl | hd
      · exact deep_int
      rcases List.mem_cons.mp hd with rfl | hd
      · exact deep_int
      rcases List.mem_cons.mp hd with rfl | hd
      · exact deep_int
      cases hd
  have sh : (ps.map rcD).all shpT = true := List.all_eq_true.mpr fun d hd => by
    obtain ⟨z, _, rfl⟩ := List.mem_map.mp hd
    rfl
  have al : ((ps.map rcD).all fun d => (ps.map rcD).all fun e => PySem.W.alike (py d) (py e)) = true := List.all_eq_true.mpr fun d hd => List.all_eq_true.mpr fun e he => by
    obtain ⟨z, _, rfl⟩ := List.mem_map.mp hd
    obtain ⟨y, _, rfl⟩ := List.mem_map.mp he
    simp [rcD, py, pyAll, PySem.W.alike, PySem.W.alikeAll]
  rw [dp, sh, al] <;> rfl
section
variable {H W : Nat} {ps S : List Rc}
theorem count_rng (n : Nat) (f : Nat → D) : countD 0 ((List.range n).map f) = (List.range n).map fun i => .tup [natD i, f i] := by
  unfold countD
  refine List.ext_getElem (by simp) fun i h1 h2 => ?_
  simp only [List.getElem_map, List.getElem_zipIdx, List.getElem_range, Nat.zero_add]
  show D.tup [D.int (0 + (i : Int)), _] = D.tup [D.int (i : Int), _]
  rw [Int.zero_add]
end
end C

namespace C
open PySem DD L2
def leN (a b : Nat) : Bool := decide (a ≤ b)
end C

namespace C
open PySem DD L2
def g_rectangle_of : En → Option Out := (sRet (d2 gIx (dVar 0) (dC (.int 1))))
def F_rectangle_of : List D → Option D := runD g_rectangle_of 1 1
def g_in_order : En → Option Out := (sRet (dL (lSrtK F_rectangle_of (dVar 0))))
def F_in_order : List D → Option D := runD g_in_order 1 1
def g_first_sections : En → Option Out := (sRet (dCall F_in_order (aCons (dL (lLc (iEnumA (dVar 0)) (gTupD (gsCons (gSet 1) (gsCons (gSet 2) gsNil)) 2) fYes (dTup (aCons (dTup (aCons (dVar 1) aNil)) (aCons (dVar 2) aNil))) [1, 2])) aNil)))
def F_first_sections : List D → Option D := runD g_first_sections 3 1
def g_Assembly___init__ : En → Option Out := (sSeq (sIf (tNot1 (tBl (dCall F_fits (aCons (dVar 1) (aCons (dVar 2) aNil))))) (sRaiseK "AssemblyError" ["what"] (aCons (dC (.str "patches do not fit")) aNil)) sNil)
 (sSeq (sSetF 0 "Assembly" "_pattern" fun en => ((dVar 1) en).map Tr.lf)
 (sSeq (sSetF 0 "Assembly" "_patches" fun en => ((dCB gTuple (aCons (dVar 2) aNil)) en).map Tr.lf)
 (sSeq (sSetF 0 "Assembly" "_sections" fun en => ((dCall F_first_sections (aCons (dVar 2) aNil)) en).map Tr.lf)
 (sSetF 0 "Assembly" "_joins" fun en => ((lLst aNil) en).map fun ds => .ls (ds.map Tr.lf))))))
def F_Assembly___init__ : DD.Tr → List D → Option (D × DD.Tr) := runP g_Assembly___init__ 3 3 0
def g_Assembly___len__ : En → Option Out := (sRet (dCB gLen (aCons (dFld 0 "Assembly" "_sections") aNil)))
def F_Assembly___len__ : DD.Tr → List D → Option D := runR g_Assembly___len__ 1 1
def g_Assembly_sections : En → Option Out := (sRet (dL (lListOf (dFld 0 "Assembly" "_sections"))))
def F_Assembly_sections : DD.Tr → List D → Option D := runR g_Assembly_sections 1 1
def g_Assembly_sewn_length : En → Option Out := (sRet (dScalF 0 "Assembly" "_joins" (dCB gSum (aCons (dL (lLc (iAny (dFld 0 "Assembly" "_joins")) (gTupD (gsCons (gSet 1) (gsCons (gSet 2) gsNil)) 2) fYes (dVar 2) [1, 2])) aNil))))
def F_Assembly_sewn_length : DD.Tr → List D → Option D := runR g_Assembly_sewn_length 3 1
def g__law_ordered : En → Option Out := (sSeq (sSet 1 (dL (lSrt (dL (lLc (iAny (dVar 0)) (gTupD (gsCons (gSet 3) (gsCons (gSet 2) gsNil)) 2) fYes (dTup (aCons (dVar 2) (aCons (dVar 3) aNil))) [3, 2])))))
 (sRet (dL (lLc (iAny (dVar 1)) (gTupD (gsCons (gSet 2) (gsCons (gSet 3) gsNil)) 2) fYes (dTup (aCons (dVar 3) (aCons (dVar 2) aNil))) [2, 3]))))
def F__law_ordered : List D → Option D := runD g__law_ordered 4 1
def g__law_start : En → Option Out := (sRet (dCall F__law_ordered (aCons (dL (lLc (iR1 (aCons (dCB gLen (aCons (dVar 0) aNil)) aNil)) (gSet 1) fYes (dTup (aCons (dTup (aCons (dVar 1) aNil)) (aCons (d2 gIx (dVar 0) (dVar 1)) aNil))) [1])) aNil)))
def F__law_start : List D → Option D := runD g__law_start 2 1
def seD (s : List Int × (Int × Int × Int × Int)) : D := .tup [.tup (s.1.map D.int), .tup [.int s.2.1, .int s.2.2.1, .int s.2.2.2.1, .int s.2.2.2.2]]
def reD (s : List Int × (Int × Int × Int × Int)) : D := .tup [.int s.2.1, .int s.2.2.1, .int s.2.2.2.1, .int s.2.2.2.2]
theorem rect_se (s : List Int × (Int × Int × Int × Int)) : F_rectangle_of [seD s] = some (reD s) := by
  rfl
theorem key_se : ∀ ss : List (List Int × (Int × Int × Int × Int)), DD.keyL F_rectangle_of (ss.map seD) = some (ss.map reD)
  | [] => rfl
  | s :: ss => by
    rw [List.map_cons, DD.keyL, rect_se, Option.bind_some, key_se ss] <;> rfl
def seLe (a b : List Int × (Int × Int × Int × Int)) : Bool := leD (reD a) (reD b)
theorem srt_se (ss : List (List Int × (Int × Int × Int × Int))) (h : srtOk (ss.map reD) = true) : srtK F_rectangle_of (ss.map seD) = some ((ss.mergeSort seLe).map seD) := by
  unfold srtK
  rw [key_se, Option.bind_some, if_pos h]
  have e : (ss.map seD).zip (ss.map reD) = ss.map fun s => (seD s, reD s) := by
    rw [List.zip_map', ]
  rw [e, ← List.map_mergeSort (r := seLe) (s := fun x y : D × D => leD x.2 y.2) (f := fun s => (seD s, reD s)) (fun _ _ _ _ => rfl), List.map_map] <;> rfl
theorem order_se (ss : List (List Int × (Int × Int × Int × Int))) (h : srtOk (ss.map reD) = true) : F_in_order [.lst (ss.map seD)] = some (.lst ((ss.mergeSort seLe).map seD)) := by
  have := srt_se ss h
  simp [F_in_order, runD, g_in_order, entry, sRet, dL, lSrtK, dVar, this]
theorem mergeSort_congr {α : Type} {r t : α → α → Bool} (l : List α) (h : ∀ a ∈ l, ∀ b ∈ l, r a b = t a b) : l.mergeSort r = l.mergeSort t := by
  have e1 := List.map_mergeSort (r := fun a b : {x // x ∈ l} => r a.1 b.1) (s := r) (f := Subtype.val) (l := l.attach) (fun _ _ _ _ => rfl)
  have e2 := List.map_mergeSort (r := fun a b : {x // x ∈ l} => r a.1 b.1) (s := t) (f := Subtype.val) (l := l.attach) (fun a _ b _ => h a.1 a.2 b.1 b.2)
  rw [List.attach_map_subtype_val] at e1 e2
  rw [← e1, e2]
open PySem in
theorem alike_ints : ∀ xs ys : List Int, PySem.W.alikeAll (pyAll (xs.map D.int)) (pyAll (ys.map D.int)) = true
  | [], _ => rfl
  | _ :: _, [] => rfl
  | x :: xs, y :: ys => by
    have := alike_ints xs ys
    simp [pyAll, py, PySem.W.alikeAll, PySem.W.alike, this]
def prD (s : List Int × (Int × Int × Int × Int)) : D := .tup [reD s, .tup (s.1.map D.int)]
def prLe (a b : List Int × (Int × Int × Int × Int)) : Bool := leD (prD a) (prD b)
theorem lt_self (d : PySem.PyData) : PySem.W.dataLt d d = false := PyProof.Rows.lex_irrefl _
theorem pr_se (a b : List Int × (Int × Int × Int × Int)) (h : a.2 = b.2 → a = b) : seLe a b = prLe a b := by
  show (!PySem.W.dataLt (py (reD b)) (py (reD a))) = !PySem.W.dataLt (py (prD b)) (py (prD a))
  by_cases e : a.2 = b.2
  · rw [h e, lt_self, lt_self]
  · have q : PySem.W.dataLt (py (prD b)) (py (prD a)) = PySem.W.dataLt (py (reD b)) (py (reD a)) := by
      have h1 : PySem.W.alike (py (reD b)) (py (reD a)) = true := by
        simp [reD, py, pyAll, PySem.W.alike, PySem.W.alikeAll]
      have h2 : PySem.W.alike (py (.tup (b.1.map D.int))) (py (.tup (a.1.map D.int))) = true := by
        rw [py, py, PySem.W.alike]
        exact alike_ints _ _
      have h3 : PySem.PyData.eqv (py (reD b)) (py (reD a)) = false := by
        cases z : PySem.PyData.eqv (py (reD b)) (py (reD a)) with
        | false => rfl
        | true =>
          exfalso
          apply e
          obtain ⟨m, b1, b2, b3, b4⟩ := b
          obtain ⟨m', a1, a2, a3, a4⟩ := a
          simp [reD, py, pyAll, PySem.PyData.eqv, PySem.PyData.eqvAll] at z
          simp [z]
      have h4 := PySem.W.dataLt_pair h1 h2
      rw [h3] at h4
      exact h4
    rw [q]
theorem sort_pr (ss : List (List Int × (Int × Int × Int × Int))) (h : ∀ a ∈ ss, ∀ b ∈ ss, a.2 = b.2 → a = b) : ss.mergeSort seLe = ss.mergeSort prLe := mergeSort_congr ss fun a ha b hb => pr_se a b (h a ha b hb)
theorem law_ordered_se (ss : List (List Int × (Int × Int × Int × Int))) (hl : ss.length ≤ 1000) (h : srtOk (ss.map prD) = true) : F__law_ordered [.lst (ss.map seD)] = some (.lst ((ss.mergeSort prLe).map seD)) := by
  have l1 : lLc (iAny (dVar 0)) (gTupD (gsCons (gSet 3) (gsCons (gSet 2) gsNil)) 2) fYes (dTup (aCons (dVar 2) (aCons (dVar 3) aNil))) [3, 2] [.dat (.lst (ss.map seD)), .no, .no, .no] = some (ss.map prD) := lc_all ss seD prD rfl hl fun s _ => ⟨_, rfl, rfl⟩
  have l2 : lSrt (dL (lLc (iAny (dVar 0)) (gTupD (gsCons (gSet 3) (gsCons (gSet 2) gsNil)) 2) fYes (dTup (aCons (dVar 2) (aCons (dVar 3) aNil))) [3, 2])) [.dat (.lst (ss.map seD)), .no, .no, .no] = some ((ss.mergeSort prLe).map prD) := by
    unfold lSrt dL
    rw [l1]
    show (if srtOk (ss.map prD) = true then some ((ss.map prD).mergeSort leD) else none) = _
    rw [if_pos h, List.map_mergeSort (r := prLe) (s := leD) (f := prD) (fun _ _ _ _ => rfl)]
  have l3 : lLc (iAny (dVar 1)) (gTupD (gsCons (gSet 2) (gsCons (gSet 3) gsNil)) 2) fYes (dTup (aCons (dVar 3) (aCons (dVar 2) aNil))) [2, 3] [.dat (.lst (ss.map seD)), .dat (.lst ((ss.mergeSort prLe).map prD)), .no, .no] = some ((ss.mergeSort prLe).map seD) := lc_all (ss.mergeSort prLe) prD seD rfl (by rw [List.length_mergeSort]; exact hl) fun s _ => ⟨_, rfl, rfl⟩
  have s1 : sSet 1 (dL (lSrt (dL (lLc (iAny (dVar 0)) (gTupD (gsCons (gSet 3) (gsCons (gSet 2) gsNil)) 2) fYes (dTup (aCons (dVar 2) (aCons (dVar 3) aNil))) [3, 2])))) [.dat (.lst (ss.map seD)), .no, .no, .no] = some (.nx [.dat (.lst (ss.map seD)), .dat (.lst ((ss.mergeSort prLe).map prD)), .no, .no]) := by
    show Option.map _ (Option.map D.lst (lSrt _ _)) = _
    rw [l2] <;> rfl
  have s2 : sRet (dL (lLc (iAny (dVar 1)) (gTupD (gsCons (gSet 2) (gsCons (gSet 3) gsNil)) 2) fYes (dTup (aCons (dVar 3) (aCons (dVar 2) aNil))) [2, 3])) [.dat (.lst (ss.map seD)), .dat (.lst ((ss.mergeSort prLe).map prD)), .no, .no] = some (.rt (.lst ((ss.mergeSort prLe).map seD))) := by
    show Option.map _ (Option.map D.lst (lLc _ _ _ _ _ _)) = _
    rw [l3] <;> rfl
  have g : g__law_ordered [.dat (.lst (ss.map seD)), .no, .no, .no] = some (.rt (.lst ((ss.mergeSort prLe).map seD))) := by
    unfold g__law_ordered sSeq
    rw [s1]
    exact s2
  show (if [D.lst (ss.map seD)].length = 1 then (g__law_ordered [.dat (.lst (ss.map seD)), .no, .no, .no]).bind _ else none) = _
  rw [if_pos (show [D.lst (ss.map seD)].length = 1 from rfl), g] <;> rfl
def asT (p q : D) (L js : List D) : DD.Tr := .ob "Assembly" ["_pattern", "_patches", "_sections", "_joins"] [.lf p, .lf q, .lf (.lst L), .ls (js.map DD.Tr.lf)]
abbrev Sec := List Nat × Rc
def toS (s : Sec) : List Int × (Int × Int × Int × Int) := (s.1.map fun n : Nat => (n : Int), ((s.2.t : Int), (s.2.l : Int), (s.2.h : Int), (s.2.w : Int)))
def seN (s : Sec) : D := .tup [.tup (s.1.map natD), rcD s.2]
theorem seN_eq (s : Sec) : seD (toS s) = seN s := by
  unfold seD toS seN
  rw [List.map_map] <;> rfl
theorem maps_sN (S : List Sec) : (S.map toS).map seD = S.map seN := by
  rw [List.map_map]
  exact List.map_congr_left fun s _ => seN_eq s
theorem toS_rc {a b : Sec} (h : (toS a).2 = (toS b).2) : a.2 = b.2 := by
  obtain ⟨m, t, l, hh, w⟩ := a
  obtain ⟨m', t', l', hh', w'⟩ := b
  simp only [toS, Prod.mk.injEq] at h
  show Rc.mk t l hh w = Rc.mk t' l' hh' w'
  rw [Rc.mk.injEq]
  omega
def leS (a b : Sec) : Bool := leR a.2 b.2
theorem leS_eq (a b : Sec) : leS a b = seLe (toS a) (toS b) := (le_rcD a.2 b.2).symm
theorem sort_toS (S : List Sec) : (S.map toS).mergeSort seLe = (S.mergeSort leS).map toS :=
  (List.map_mergeSort (r := leS) (s := seLe) (f := toS) (l := S) fun a _ b _ => leS_eq a b).symm
theorem order_ok (S : List Sec) : F_in_order [.lst (S.map seN)] = some (.lst ((S.mergeSort leS).map seN)) := by
  have h : srtOk ((S.map toS).map reD) = true := by
    rw [List.map_map]
    have := srt_ok4 (S.map Prod.snd)
    rw [List.map_map] at this
    exact this
  have e := order_se (S.map toS) h
  rw [maps_sN, sort_toS, maps_sN] at e
  exact e
theorem deep_rcD (n : Nat) (r : Rc) : deep (n + 1) (rcD r) = true := deep_tup.mpr fun d hd => by
  rcases List.mem_cons.mp hd with rfl | hd
  · exact deep_int
  rcases List.mem_cons.mp hd with rfl | hd
  · exact deep_int
  rcases List.mem_cons.mp hd with rfl | hd
  · exact deep_int
  rcases List.mem_cons.mp hd with rfl | hd
  · exact deep_int
  cases hd
def keepS (a b s : Sec) : Bool := !decide (s = a) && !decide (s = b)
theorem srt_pr (S : List Sec) : srtOk ((S.map toS).map prD) = true := by
  have f : ∀ s : Sec, prD (toS s) = .tup [rcD s.2, .tup ((s.1.map fun n : Nat => (n : Int)).map D.int)] := fun _ => rfl
  have dp : deepAll 58 ((S.map toS).map prD) = true := deepAll_iff.mpr fun d hd => by
    rw [List.map_map] at hd
    obtain ⟨z, _, rfl⟩ := List.mem_map.mp hd
    exact deep_tup.mpr fun d hd => by
      rcases List.mem_cons.mp hd with rfl | hd
      · exact deep_rcD 56 z.2
      rcases List.mem_cons.mp hd with rfl | hd
      · refine deep_tup.mpr fun d hd => ?_
        obtain ⟨z, _, rfl⟩ := List.mem_map.mp hd
        exact deep_int
      cases hd
  have sh : ((S.map toS).map prD).all shpT = true := List.all_eq_true.mpr fun d hd => by
    rw [List.map_map] at hd
    obtain ⟨z, _, rfl⟩ := List.mem_map.mp hd
    rfl
  have al : (((S.map toS).map prD).all fun d => ((S.map toS).map prD).all fun e => PySem.W.alike (py d) (py e)) = true := List.all_eq_true.mpr fun d hd => List.all_eq_true.mpr fun e he => by
    rw [List.map_map] at hd he
    obtain ⟨z, _, rfl⟩ := List.mem_map.mp hd
    obtain ⟨y, _, rfl⟩ := List.mem_map.mp he
    show PySem.W.alike (py (prD (toS z))) (py (prD (toS y))) = true
    rw [f, f]
    have h1 : PySem.W.alike (py (rcD z.2)) (py (rcD y.2)) = true := by simp [rcD, py, pyAll, PySem.W.alike, PySem.W.alikeAll]
    have h2 := alike_ints (z.1.map fun n : Nat => (n : Int)) (y.1.map fun n : Nat => (n : Int))
    rw [py, py, pyAll, pyAll, pyAll, pyAll, pyAll, PySem.W.alike, PySem.W.alikeAll, PySem.W.alikeAll, PySem.W.alikeAll, h1, py, py, PySem.W.alike, h2] <;> rfl
  unfold srtOk
  rw [dp, sh, al] <;> rfl
theorem law_ordered_ok (S : List Sec) (hl : S.length ≤ 1000) (h : ∀ a ∈ S, ∀ b ∈ S, a.2 = b.2 → a = b) : F__law_ordered [.lst (S.map seN)] = some (.lst ((S.mergeSort leS).map seN)) := by
  have e := law_ordered_se (S.map toS) (by rw [List.length_map]; exact hl) (srt_pr S)
  rw [← sort_pr (S.map toS) fun a ha b hb z => by
    obtain ⟨x, hx, rfl⟩ := List.mem_map.mp ha
    obtain ⟨y, hy, rfl⟩ := List.mem_map.mp hb
    rw [h x hx y hy (toS_rc z)]] at e
  rw [maps_sN, sort_toS, maps_sN] at e
  exact e
def behB (v : Bool) (a b : Rc) : Bool := decide (ed v a = st v b) && (decide (st (!v) a = st (!v) b) && decide (ed (!v) a = ed (!v) b))
def fsN (a b : Rc) : Nat := if (behB true a b || behB true b a) = true then a.h else if (behB false a b || behB false b a) = true then a.w else 0
def uni (a c : Rc) : Rc := ⟨min a.t c.t, min a.l c.l, max (a.t + a.h) (c.t + c.h) - min a.t c.t, max (a.l + a.w) (c.l + c.w) - min a.l c.l⟩
theorem fsN_cases {a b : Rc} (h : fsN a b ≠ 0) : behB true a b = true ∨ behB true b a = true ∨ behB false a b = true ∨ behB false b a = true := by
  unfold fsN at h
  cases h1 : behB true a b
  · cases h2 : behB true b a
    · cases h3 : behB false a b
      · cases h4 : behB false b a
        · rw [h1, h2, h3, h4] at h
          exact absurd rfl h
        · exact .inr (.inr (.inr rfl))
      · exact .inr (.inr (.inl rfl))
    · exact .inr (.inl rfl)
  · exact .inl rfl
theorem beh_iff {v : Bool} {a b : Rc} (h : behB v a b = true) : ed v a = st v b ∧ st (!v) a = st (!v) b ∧ ed (!v) a = ed (!v) b := by
  unfold behB at h
  rw [Bool.and_eq_true, Bool.and_eq_true, decide_eq_true_eq, decide_eq_true_eq, decide_eq_true_eq] at h
  exact h
theorem beh_T {a b : Rc} (h : behB true a b = true) : a.l + a.w = b.l ∧ a.t = b.t ∧ a.t + a.h = b.t + b.h := beh_iff h
theorem beh_F {a b : Rc} (h : behB false a b = true) : a.t + a.h = b.t ∧ a.l = b.l ∧ a.l + a.w = b.l + b.w := beh_iff h
theorem inR_uni {a b : Rc} (h : fsN a b ≠ 0) (x y : Nat) : inR x y (uni a b) = (inR x y a || inR x y b) := by
  rw [Bool.eq_iff_iff, Bool.or_eq_true]
  unfold inR uni
  rw [decide_eq_true_eq, decide_eq_true_eq, decide_eq_true_eq]
  simp only
  rcases fsN_cases h with h | h | h | h
  · have := beh_T h
    omega
  · have := beh_T h
    omega
  · have := beh_F h
    omega
  · have := beh_F h
    omega
theorem join_tile {R a b : Rc} {rs : List Rc} (k : TileR R (a :: b :: rs)) (h : fsN a b ≠ 0) : TileR R (uni a b :: rs) := by
  have ia := k.ins a List.mem_cons_self
  have ib := k.ins b (List.mem_cons_of_mem _ List.mem_cons_self)
  refine ⟨fun r hr => ?_, fun x y hx => ?_⟩
  · rcases List.mem_cons.mp hr with rfl | hr
    · unfold uni
      simp only
      rcases fsN_cases h with h | h | h | h
      · have := beh_T h
        omega
      · have := beh_T h
        omega
      · have := beh_F h
        omega
      · have := beh_F h
        omega
    · exact k.ins r (List.mem_cons_of_mem _ (List.mem_cons_of_mem _ hr))
  · have o := k.one x y hx
    rw [List.countP_cons, List.countP_cons] at o
    rw [List.countP_cons, inR_uni h]
    cases ha : inR x y a <;> cases hb : inR x y b <;> rw [ha, hb] at o <;> simp at o ⊢ <;> omega
structure SOk (H W n : Nat) (S : List Sec) : Prop where
  tile : TileR ⟨0, 0, H, W⟩ (S.map Prod.snd)
  mem : (S.flatMap Prod.fst).Perm (List.range n)
  asc : ∀ s ∈ S, s.1.Pairwise (· < ·)
  ne : ∀ s ∈ S, s.1 ≠ []
def joinS (a b : Sec) : Sec := ((a.1 ++ b.1).mergeSort leN, uni a.2 b.2)
def jn0 (S : List Sec) (a b : Sec) : List Sec := S.filter (keepS a b) ++ [joinS a b]
def jn (S : List Sec) (a b : Sec) : List Sec := (jn0 S a b).mergeSort leS
theorem TileR.nodup {R : Rc} {ps : List Rc} (k : TileR R ps) : ps.Nodup := by
  unfold List.Nodup
  rw [List.pairwise_iff_getElem]
  intro i j hi hj hij e
  have h := k.ins _ (List.getElem_mem hi)
  have := k.apart (x := ps[i].t) (y := ps[i].l) (List.getElem?_eq_getElem hi) (List.getElem?_eq_getElem hj) (by unfold inR; rw [decide_eq_true_eq]; omega) (by rw [← e]; unfold inR; rw [decide_eq_true_eq]; omega)
  omega
theorem SOk.perm {H W n : Nat} {S T : List Sec} (k : SOk H W n S) (p : T.Perm S) : SOk H W n T :=
  ⟨k.tile.perm (p.map _), (p.flatMap_right _).trans k.mem, fun s hs => k.asc s (p.mem_iff.mp hs), fun s hs => k.ne s (p.mem_iff.mp hs)⟩
theorem SOk.nodup {H W n : Nat} {S : List Sec} (k : SOk H W n S) : S.Nodup := by
  have := TileR.nodup k.tile
  unfold List.Nodup at this ⊢
  rw [List.pairwise_map] at this
  exact this.imp fun h e => h (by rw [e])
theorem nodup_inj {α β : Type} {f : α → β} : ∀ {l : List α}, (l.map f).Nodup → ∀ a ∈ l, ∀ b ∈ l, f a = f b → a = b
  | [], _, _, h, _, _, _ => nomatch h
  | x :: l, hn, a, ha, b, hb, e => by
    rw [List.map_cons, List.nodup_cons] at hn
    rcases List.mem_cons.mp ha with h1 | h1 <;> rcases List.mem_cons.mp hb with h2 | h2
    · rw [h1, h2]
    · exact absurd (by rw [← h1, e]; exact List.mem_map_of_mem h2) hn.1
    · exact absurd (by rw [← h2, ← e]; exact List.mem_map_of_mem h1) hn.1
    · exact nodup_inj hn.2 a h1 b h2 e
theorem SOk.inj {H W n : Nat} {S : List Sec} (k : SOk H W n S) : ∀ a ∈ S, ∀ b ∈ S, a.2 = b.2 → a = b := nodup_inj (TileR.nodup k.tile)
theorem len_flat {S : List Sec} (h : ∀ s ∈ S, s.1 ≠ []) : S.length ≤ (S.flatMap Prod.fst).length := by
  induction S with
  | nil => exact Nat.zero_le _
  | cons s S ih =>
    have h1 : 1 ≤ s.1.length := List.length_pos_iff.mpr (h s List.mem_cons_self)
    have h2 := ih fun t ht => h t (List.mem_cons_of_mem _ ht)
    rw [List.flatMap_cons, List.length_append, List.length_cons]
    omega
theorem SOk.len {H W n : Nat} {S : List Sec} (k : SOk H W n S) : S.length ≤ n := by
  have := len_flat k.ne
  rw [k.mem.length_eq, List.length_range] at this
  exact this
theorem SOk.has {H W n : Nat} {S : List Sec} (k : SOk H W n S) {i : Nat} (h : i < n) : ∃ s ∈ S, i ∈ s.1 := by
  have := k.mem.mem_iff.mpr (List.mem_range.mpr h)
  obtain ⟨s, hs, hi⟩ := List.mem_flatMap.mp this
  exact ⟨s, hs, hi⟩
theorem two_perm {S : List Sec} (nd : S.Nodup) {a b : Sec} (ha : a ∈ S) (hb : b ∈ S) (ne : a ≠ b) : S.Perm (a :: b :: S.filter (keepS a b)) := by
  refine (List.perm_ext_iff_of_nodup nd ?_).mpr fun s => ?_
  · rw [List.nodup_cons, List.nodup_cons]
    refine ⟨fun h => ?_, fun h => ?_, nd.filter _⟩
    · rcases List.mem_cons.mp h with h | h
      · exact ne h
      · have := (List.mem_filter.mp h).2
        unfold keepS at this
        rw [decide_eq_true (rfl : a = a)] at this
        cases this
    · have := (List.mem_filter.mp h).2
      unfold keepS at this
      rw [decide_eq_true (rfl : b = b), Bool.not_true, Bool.and_false] at this
      cases this
  · rw [List.mem_cons, List.mem_cons, List.mem_filter]
    unfold keepS
    rw [Bool.and_eq_true, Bool.not_eq_true', Bool.not_eq_true', decide_eq_false_iff_not, decide_eq_false_iff_not]
    constructor
    · intro h
      by_cases h1 : s = a
      · exact .inl h1
      by_cases h2 : s = b
      · exact .inr (.inl h2)
      exact .inr (.inr ⟨h, h1, h2⟩)
    · rintro (h | h | h)
      · exact h ▸ ha
      · exact h ▸ hb
      · exact h.1
theorem asc_sort {xs : List Nat} (h : xs.Nodup) : (xs.mergeSort leN).Pairwise (· < ·) := by
  have nd : (xs.mergeSort leN).Nodup := (List.mergeSort_perm xs leN).nodup_iff.mpr h
  have pw : (xs.mergeSort leN).Pairwise fun a b => leN a b = true := List.pairwise_mergeSort (fun a b c h1 h2 => by unfold leN at *; rw [decide_eq_true_eq] at *; omega) (fun a b => by unfold leN; rw [Bool.or_eq_true, decide_eq_true_eq, decide_eq_true_eq]; omega) xs
  refine (pw.and nd).imp fun {a b} z => ?_
  obtain ⟨z1, z2⟩ := z
  unfold leN at z1
  rw [decide_eq_true_eq] at z1
  omega
theorem jn_perm (S : List Sec) (a b : Sec) : (jn S a b).Perm (joinS a b :: S.filter (keepS a b)) :=
  (List.mergeSort_perm _ _).trans (List.perm_append_comm.trans (List.Perm.refl _))
theorem SOk.join0 {H W n : Nat} {S : List Sec} (k : SOk H W n S) {a b : Sec} (ha : a ∈ S) (hb : b ∈ S) (ne : a ≠ b) (f : fsN a.2 b.2 ≠ 0) : SOk H W n (joinS a b :: S.filter (keepS a b)) := by
  have k2 := k.perm (two_perm k.nodup ha hb ne).symm
  have m2 := k2.mem
  rw [List.flatMap_cons, List.flatMap_cons, ← List.append_assoc] at m2
  have nd : (a.1 ++ b.1).Nodup := (List.nodup_append.mp (m2.nodup_iff.mpr List.nodup_range)).1
  have pm := List.mergeSort_perm (a.1 ++ b.1) leN
  refine ⟨join_tile k2.tile f, ?_, fun s hs => ?_, fun s hs => ?_⟩
  · rw [List.flatMap_cons]
    exact (List.Perm.append_right _ pm).trans m2
  · rcases List.mem_cons.mp hs with rfl | hs
    · exact asc_sort nd
    · exact k.asc s (List.mem_filter.mp hs).1
  · rcases List.mem_cons.mp hs with rfl | hs
    · intro z
      have := pm.length_eq
      rw [show (a.1 ++ b.1).mergeSort leN = [] from z, List.length_append, List.length_nil] at this
      have h1 : 1 ≤ a.1.length := List.length_pos_iff.mpr (k.ne a ha)
      omega
    · exact k.ne s (List.mem_filter.mp hs).1
theorem SOk.join {H W n : Nat} {S : List Sec} (k : SOk H W n S) {a b : Sec} (ha : a ∈ S) (hb : b ∈ S) (ne : a ≠ b) (f : fsN a.2 b.2 ≠ 0) : SOk H W n (jn S a b) := (k.join0 ha hb ne f).perm (jn_perm S a b)
def st0 (ps : List Rc) : List Sec := (List.range ps.length).map fun k => ([k], ps.getD k rc0)
def stS (ps : List Rc) : List Sec := (st0 ps).mergeSort leS
theorem map_rng (ps : List Rc) : ps.map rcD = (List.range ps.length).map fun k => rcD (ps.getD k rc0) := by
  refine List.ext_getElem (by simp) fun i h1 h2 => ?_
  rw [List.length_map] at h1
  simp [List.getElem_map, List.getElem_range, List.getD_eq_getElem?_getD, List.getElem?_eq_getElem h1]
theorem st0_rc (ps : List Rc) : (st0 ps).map Prod.snd = ps := by
  unfold st0
  rw [List.map_map]
  refine List.ext_getElem (by simp) fun i h1 h2 => ?_
  simp [List.getElem_map, List.getElem_range, List.getD_eq_getElem?_getD, List.getElem?_eq_getElem h2]
theorem st0_ok {H W : Nat} {ps : List Rc} (k : TileR ⟨0, 0, H, W⟩ ps) : SOk H W ps.length (st0 ps) := by
  refine ⟨by rw [st0_rc]; exact k, ?_, fun s hs => ?_, fun s hs => ?_⟩
  · unfold st0
    rw [List.flatMap_map]
    have : ∀ n, ((List.range n).flatMap fun k => (([k], ps.getD k rc0) : Sec).1) = List.range n := fun n => by
      induction n with
      | zero => rfl
      | succ n ih => rw [List.range_succ, List.flatMap_append, ih] <;> rfl
    rw [this]
  · unfold st0 at hs
    obtain ⟨j, _, rfl⟩ := List.mem_map.mp hs
    exact List.pairwise_singleton _ _
  · unfold st0 at hs
    obtain ⟨j, _, rfl⟩ := List.mem_map.mp hs
    exact List.cons_ne_nil _ _
theorem st0_map (ps : List Rc) : (st0 ps).map seN = (List.range ps.length).map fun k => .tup [.tup [natD k], rcD (ps.getD k rc0)] := by
  unfold st0
  rw [List.map_map] <;> rfl
theorem first_ok (ps : List Rc) (hl : ps.length ≤ 400) : F_first_sections [psD ps] = some (.lst ((stS ps).map seN)) := by
  have l1 : lLc (iEnumA (dVar 0)) (gTupD (gsCons (gSet 1) (gsCons (gSet 2) gsNil)) 2) fYes (dTup (aCons (dTup (aCons (dVar 1) aNil)) (aCons (dVar 2) aNil))) [1, 2] [.dat (psD ps), .no, .no] = some ((st0 ps).map seN) := by
    rw [st0_map]
    refine lc_all (List.range ps.length) (fun k => .tup [natD k, rcD (ps.getD k rc0)]) _ ?_ (by rw [List.length_range]; omega) fun k _ => ⟨_, rfl, rfl⟩
    show some (countD 0 (ps.map rcD)) = _
    rw [map_rng, count_rng]
  exact run_rt rfl (ret_of (call_of (a_one (dL_of l1)) (order_ok (st0 ps))))
theorem start_ok {H W : Nat} {ps : List Rc} (k : TileR ⟨0, 0, H, W⟩ ps) (hl : ps.length ≤ 400) : F__law_start [psD ps] = some (.lst ((stS ps).map seN)) := by
  have l1 : lLc (iR1 (aCons (dCB gLen (aCons (dVar 0) aNil)) aNil)) (gSet 1) fYes (dTup (aCons (dTup (aCons (dVar 1) aNil)) (aCons (d2 gIx (dVar 0) (dVar 1)) aNil))) [1] [.dat (psD ps), .no] = some ((st0 ps).map seN) := by
    rw [st0_map]
    refine lc_all (List.range ps.length) natD _ (range0_nat (hi := ps.length) (a_one (cb_of (a_one rfl) (by rw [show gLen [psD ps] = _ from len_tup _, List.length_map] <;> rfl))) (by omega)) (by rw [List.length_range]; omega) fun j hj => ⟨_, rfl, ?_⟩
    refine tup_of (a_two rfl (d2_of (x := psD ps) (y := natD j) rfl rfl ?_))
    show atI (ps.map rcD) (j : Int) = _
    rw [atI_map, List.getElem?_eq_getElem (List.mem_range.mp hj), List.getD_eq_getElem?_getD, List.getElem?_eq_getElem (List.mem_range.mp hj)] <;> rfl
  exact run_rt rfl (ret_of (call_of (a_one (dL_of l1)) (law_ordered_ok (st0 ps) (by have := (st0_ok k).len; omega) (st0_ok k).inj)))
def asO (p : List (List Cell)) (ps : List Rc) (S : List Sec) (js : List (List Sec × Nat)) : DD.Tr := asT (patC p) (psD ps) (S.map seN) (js.map fun q => .tup [.lst (q.1.map seN), natD q.2])
theorem init_ok {H W : Nat} {p : List (List Cell)} {ps : List Rc} (w : Wh H W p ps) (hl : ps.length ≤ 200) : F_Assembly___init__ (.ob "Assembly" [] []) [patC p, psD ps] = some (.non, asO p ps (stS ps) []) := by
  let E : DD.Tr → En := fun t => [.par t, .dat (patC p), .dat (psD ps)]
  have t0 : tNot1 (tBl (dCall F_fits (aCons (dVar 1) (aCons (dVar 2) aNil)))) (E (.ob "Assembly" [] [])) = some false := not_of (b := true) (bl_of (call_of (a_two rfl rfl) (fits_ok w.tile hl w.pat w.one)))
  have f3 : dCall F_first_sections (aCons (dVar 2) aNil) (E (.ob "Assembly" ["_pattern", "_patches"] [.lf (patC p), .lf (psD ps)])) = some (.lst ((stS ps).map seN)) := call_of (a_one rfl) (first_ok ps (by omega))
  have s3 : sSetF 0 "Assembly" "_sections" (fun en => ((dCall F_first_sections (aCons (dVar 2) aNil)) en).map DD.Tr.lf) (E (.ob "Assembly" ["_pattern", "_patches"] [.lf (patC p), .lf (psD ps)])) = some (.nx (E (.ob "Assembly" ["_pattern", "_patches", "_sections"] [.lf (patC p), .lf (psD ps), .lf (.lst ((stS ps).map seN))]))) := by
    show Option.bind (Option.map DD.Tr.lf (dCall F_first_sections (aCons (dVar 2) aNil) (E (.ob "Assembly" ["_pattern", "_patches"] [.lf (patC p), .lf (psD ps)])))) _ = _
    rw [f3] <;> rfl
  have g : g_Assembly___init__ (E (.ob "Assembly" [] [])) = some (.nx (E (asO p ps (stS ps) []))) := seq (sifF t0 rfl) (seq (en' := E (.ob "Assembly" ["_pattern"] [.lf (patC p)])) rfl (seq (en' := E (.ob "Assembly" ["_pattern", "_patches"] [.lf (patC p), .lf (psD ps)])) rfl (seq s3 rfl)))
  show (if [patC p, psD ps].length + 1 = 3 ∧ 0 ≤ [patC p, psD ps].length then (g_Assembly___init__ (E (.ob "Assembly" [] []))).bind _ else none) = _
  rw [if_pos (show [patC p, psD ps].length + 1 = 3 ∧ 0 ≤ [patC p, psD ps].length from ⟨rfl, Nat.zero_le _⟩), g] <;> rfl
theorem dAll_lfs : ∀ ds : List D, DD.Tr.dAll (ds.map DD.Tr.lf) = some ds
  | [] => rfl
  | d :: ds => by
    rw [List.map_cons, DD.Tr.dAll, dAll_lfs ds] <;> rfl
def aft (S : List Sec) (js : List (List Sec × Nat)) : Option Sec → Option Sec → List Sec × List (List Sec × Nat)
  | some a, some b => if a = b ∨ fsN a.2 b.2 = 0 then (S, js) else (jn S a b, js ++ [(S, fsN a.2 b.2)])
  | _, _ => (S, js)
section
variable {H W n : Nat} {p : List (List Cell)} {ps : List Rc} {S : List Sec} {js : List (List Sec × Nat)}
end
end C

namespace G
open PySem PySem.Spec PyProof.Rows L2 DD C
def topS (i : Nat) : Stmt := PySem.Challenge.pw_sewnwhole_k65_limits_of_a_workroom.main.body.getD i (.Pass ⟨0, 0, 0, 0⟩)
abbrev s__law_cell : Stmt := topS 51
abbrev N__law_cell : List Str := ["script", "k"]
theorem sc__law_cell : FnScope N__law_cell ["script", "k"] (defScope s__law_cell) := ⟨rfl, rfl, rfl, by decide +kernel, rfl, by decide +kernel, by decide +kernel⟩
abbrev s__law_draw : Stmt := topS 52
abbrev N__law_draw : List Str := ["script", "k", "sizes", "cell", "drawn", "mixed", "j", "size"]
theorem sc__law_draw : FnScope N__law_draw ["script", "k", "sizes"] (defScope s__law_draw) := ⟨rfl, rfl, rfl, by decide +kernel, rfl, by decide +kernel, by decide +kernel⟩
abbrev s_Workroom___init__ : Stmt := inClass (topS 49) 0
abbrev N_Workroom___init__ : List Str := ["self"]
theorem sc_Workroom___init__ : FnScope N_Workroom___init__ ["self"] (defScope s_Workroom___init__) := ⟨rfl, rfl, rfl, by decide +kernel, rfl, by decide +kernel, by decide +kernel⟩
abbrev s_Workroom_stock : Stmt := inClass (topS 49) 1
abbrev s_Workroom_orders : Stmt := inClass (topS 49) 2
abbrev N_Workroom_orders : List Str := ["self", "number", "order"]
theorem sc_Workroom_orders : FnScope N_Workroom_orders ["self"] (defScope s_Workroom_orders) := ⟨rfl, rfl, rfl, by decide +kernel, rfl, by decide +kernel, by decide +kernel⟩
abbrev s_total_area : Stmt := topS 46
abbrev N_total_area : List Str := ["areas", "_", "area"]
theorem sc_total_area : FnScope N_total_area ["areas"] (defScope s_total_area) := ⟨rfl, rfl, rfl, by decide +kernel, rfl, by decide +kernel, by decide +kernel⟩
abbrev s_Workroom_totals : Stmt := inClass (topS 49) 3
abbrev N_Workroom_totals : List Str := ["self", "taken", "order"]
theorem sc_Workroom_totals : FnScope N_Workroom_totals ["self"] (defScope s_Workroom_totals) := ⟨rfl, rfl, rfl, by decide +kernel, rfl, by decide +kernel, by decide +kernel⟩
abbrev s_Workroom__keep : Stmt := inClass (topS 49) 4
abbrev N_Workroom__keep : List Str := ["self", "deed"]
theorem sc_Workroom__keep : FnScope N_Workroom__keep ["self", "deed"] (defScope s_Workroom__keep) := ⟨rfl, rfl, rfl, by decide +kernel, rfl, by decide +kernel, by decide +kernel⟩
abbrev s_Workroom___contains__ : Stmt := inClass (topS 49) 12
abbrev N_Workroom___contains__ : List Str := ["self", "order"]
theorem sc_Workroom___contains__ : FnScope N_Workroom___contains__ ["self", "order"] (defScope s_Workroom___contains__) := ⟨rfl, rfl, rfl, by decide +kernel, rfl, by decide +kernel, by decide +kernel⟩
abbrev s_Workroom__check_waiting : Stmt := inClass (topS 49) 5
abbrev N_Workroom__check_waiting : List Str := ["self", "order"]
theorem sc_Workroom__check_waiting : FnScope N_Workroom__check_waiting ["self", "order"] (defScope s_Workroom__check_waiting) := ⟨rfl, rfl, rfl, by decide +kernel, rfl, by decide +kernel, by decide +kernel⟩
abbrev s_added_areas : Stmt := topS 40
abbrev N_added_areas : List Str := ["lists", "areas", "pairs", "fabric", "area"]
theorem sc_added_areas : FnScope N_added_areas ["lists"] (defScope s_added_areas) := ⟨rfl, rfl, rfl, by decide +kernel, rfl, by decide +kernel, by decide +kernel⟩
abbrev s_Workroom_buy : Stmt := inClass (topS 49) 6
abbrev N_Workroom_buy : List Str := ["self", "fabric", "area", "stock", "total"]
theorem sc_Workroom_buy : FnScope N_Workroom_buy ["self", "fabric", "area"] (defScope s_Workroom_buy) := ⟨rfl, rfl, rfl, by decide +kernel, rfl, by decide +kernel, by decide +kernel⟩
abbrev s_sides : Stmt := topS 22
abbrev N_sides : List Str := ["patches", "bottoms", "rights", "patch"]
theorem sc_sides : FnScope N_sides ["patches"] (defScope s_sides) := ⟨rfl, rfl, rfl, by decide +kernel, rfl, by decide +kernel, by decide +kernel⟩
abbrev s_size_of : Stmt := topS 19
abbrev N_size_of : List Str := ["pattern", "row"]
theorem sc_size_of : FnScope N_size_of ["pattern"] (defScope s_size_of) := ⟨rfl, rfl, rfl, by decide +kernel, rfl, by decide +kernel, by decide +kernel⟩
abbrev s_cells_of : Stmt := topS 21
abbrev N_cells_of : List Str := ["patch", "top", "left", "height", "width", "row", "column"]
theorem sc_cells_of : FnScope N_cells_of ["patch"] (defScope s_cells_of) := ⟨rfl, rfl, rfl, by decide +kernel, rfl, by decide +kernel, by decide +kernel⟩
abbrev s_is_fabric : Stmt := topS 9
abbrev N_is_fabric : List Str := ["word"]
theorem sc_is_fabric : FnScope N_is_fabric ["word"] (defScope s_is_fabric) := ⟨rfl, rfl, rfl, by decide +kernel, rfl, by decide +kernel, by decide +kernel⟩
abbrev s_can_be_cut : Stmt := topS 24
abbrev N_can_be_cut : List Str := ["pattern", "patch", "cells", "row", "column", "cell"]
theorem sc_can_be_cut : FnScope N_can_be_cut ["pattern", "patch"] (defScope s_can_be_cut) := ⟨rfl, rfl, rfl, by decide +kernel, rfl, by decide +kernel, by decide +kernel⟩
abbrev s_fits : Stmt := topS 25
abbrev N_fits : List Str := ["pattern", "patches", "patch"]
theorem sc_fits : FnScope N_fits ["pattern", "patches"] (defScope s_fits) := ⟨rfl, rfl, rfl, by decide +kernel, rfl, by decide +kernel, by decide +kernel⟩
abbrev s_check_fit : Stmt := topS 35
abbrev N_check_fit : List Str := ["pattern", "patches"]
theorem sc_check_fit : FnScope N_check_fit ["pattern", "patches"] (defScope s_check_fit) := ⟨rfl, rfl, rfl, by decide +kernel, rfl, by decide +kernel, by decide +kernel⟩
abbrev s_cell_of : Stmt := topS 36
abbrev N_cell_of : List Str := ["pattern", "patch"]
theorem sc_cell_of : FnScope N_cell_of ["pattern", "patch"] (defScope s_cell_of) := ⟨rfl, rfl, rfl, by decide +kernel, rfl, by decide +kernel, by decide +kernel⟩
abbrev s_triangle_side : Stmt := topS 38
abbrev N_triangle_side : List Str := ["cell_size", "allowance"]
theorem sc_triangle_side : FnScope N_triangle_side ["cell_size", "allowance"] (defScope s_triangle_side) := ⟨rfl, rfl, rfl, by decide +kernel, rfl, by decide +kernel, by decide +kernel⟩
abbrev s_plain_piece : Stmt := topS 37
abbrev N_plain_piece : List Str := ["patch", "cell_size", "allowance", "_", "height", "width"]
theorem sc_plain_piece : FnScope N_plain_piece ["patch", "cell_size", "allowance"] (defScope s_plain_piece) := ⟨rfl, rfl, rfl, by decide +kernel, rfl, by decide +kernel, by decide +kernel⟩
abbrev s_halves : Stmt := topS 10
abbrev N_halves : List Str := ["cell"]
theorem sc_halves : FnScope N_halves ["cell"] (defScope s_halves) := ⟨rfl, rfl, rfl, by decide +kernel, rfl, by decide +kernel, by decide +kernel⟩
abbrev s_areas_of_patch : Stmt := topS 39
abbrev N_areas_of_patch : List Str := ["pattern", "patch", "cell_size", "allowance", "cell", "side", "width", "length", "fabric"]
theorem sc_areas_of_patch : FnScope N_areas_of_patch ["pattern", "patch", "cell_size", "allowance"] (defScope s_areas_of_patch) := ⟨rfl, rfl, rfl, by decide +kernel, rfl, by decide +kernel, by decide +kernel⟩
abbrev s_fabric_needed : Stmt := topS 41
abbrev N_fabric_needed : List Str := ["pattern", "patches", "cell_size", "allowance", "lists", "patch"]
theorem sc_fabric_needed : FnScope N_fabric_needed ["pattern", "patches", "cell_size", "allowance"] (defScope s_fabric_needed) := ⟨rfl, rfl, rfl, by decide +kernel, rfl, by decide +kernel, by decide +kernel⟩
abbrev s_less : Stmt := topS 47
abbrev N_less : List Str := ["areas", "fabric", "area"]
theorem sc_less : FnScope N_less ["areas"] (defScope s_less) := ⟨rfl, rfl, rfl, by decide +kernel, rfl, by decide +kernel, by decide +kernel⟩
abbrev s_Workroom_take : Stmt := inClass (topS 49) 7
abbrev N_Workroom_take : List Str := ["self", "pattern", "patches", "cell_size", "allowance", "areas", "stock", "_", "area"]
theorem sc_Workroom_take : FnScope N_Workroom_take ["self", "pattern", "patches", "cell_size", "allowance"] (defScope s_Workroom_take) := ⟨rfl, rfl, rfl, by decide +kernel, rfl, by decide +kernel, by decide +kernel⟩
abbrev s_with_state : Stmt := topS 48
abbrev N_with_state : List Str := ["orders", "number", "state", "pattern", "patches", "areas", "_"]
theorem sc_with_state : FnScope N_with_state ["orders", "number", "state"] (defScope s_with_state) := ⟨rfl, rfl, rfl, by decide +kernel, rfl, by decide +kernel, by decide +kernel⟩
abbrev s_Workroom_cancel : Stmt := inClass (topS 49) 8
abbrev N_Workroom_cancel : List Str := ["self", "order", "areas"]
theorem sc_Workroom_cancel : FnScope N_Workroom_cancel ["self", "order"] (defScope s_Workroom_cancel) := ⟨rfl, rfl, rfl, by decide +kernel, rfl, by decide +kernel, by decide +kernel⟩
abbrev s_rectangle_of : Stmt := topS 28
abbrev N_rectangle_of : List Str := ["section"]
theorem sc_rectangle_of : FnScope N_rectangle_of ["section"] (defScope s_rectangle_of) := ⟨rfl, rfl, rfl, by decide +kernel, rfl, by decide +kernel, by decide +kernel⟩
abbrev s_in_order : Stmt := topS 29
abbrev N_in_order : List Str := ["sections"]
theorem sc_in_order : FnScope N_in_order ["sections"] (defScope s_in_order) := ⟨rfl, rfl, rfl, by decide +kernel, rfl, by decide +kernel, by decide +kernel⟩
abbrev s_first_sections : Stmt := topS 27
abbrev N_first_sections : List Str := ["patches", "number", "patch"]
theorem sc_first_sections : FnScope N_first_sections ["patches"] (defScope s_first_sections) := ⟨rfl, rfl, rfl, by decide +kernel, rfl, by decide +kernel, by decide +kernel⟩
abbrev s_Assembly___init__ : Stmt := inClass (topS 33) 0
abbrev N_Assembly___init__ : List Str := ["self", "pattern", "patches"]
theorem sc_Assembly___init__ : FnScope N_Assembly___init__ ["self", "pattern", "patches"] (defScope s_Assembly___init__) := ⟨rfl, rfl, rfl, by decide +kernel, rfl, by decide +kernel, by decide +kernel⟩
abbrev s_Assembly___len__ : Stmt := inClass (topS 33) 15
abbrev s_Assembly_pattern : Stmt := inClass (topS 33) 1
abbrev s_Assembly_patches : Stmt := inClass (topS 33) 2
abbrev s_Assembly_sections : Stmt := inClass (topS 33) 3
abbrev s_Assembly_sewn_length : Stmt := inClass (topS 33) 4
abbrev s_Workroom_start : Stmt := inClass (topS 49) 9
abbrev N_Workroom_start : List Str := ["self", "order", "pattern", "patches", "_"]
theorem sc_Workroom_start : FnScope N_Workroom_start ["self", "order"] (defScope s_Workroom_start) := ⟨rfl, rfl, rfl, by decide +kernel, rfl, by decide +kernel, by decide +kernel⟩
abbrev s_Workroom_undo : Stmt := inClass (topS 49) 10
abbrev N_Workroom_undo : List Str := ["self", "deed"]
theorem sc_Workroom_undo : FnScope N_Workroom_undo ["self"] (defScope s_Workroom_undo) := ⟨rfl, rfl, rfl, by decide +kernel, rfl, by decide +kernel, by decide +kernel⟩
abbrev s_Workroom___len__ : Stmt := inClass (topS 49) 11
abbrev s__law_do : Stmt := topS 53
abbrev N__law_do : List Str := ["room", "kind", "arguments", "e", "assembly"]
theorem sc__law_do : FnScope N__law_do ["room", "kind", "arguments"] (defScope s__law_do) := ⟨rfl, rfl, rfl, by decide +kernel, rfl, by decide +kernel, by decide +kernel⟩
abbrev s_law : Stmt := topS 54
abbrev N_law : List Str := ["script", "digits", "room", "fabric", "k", "last", "rest", "area", "other"]
theorem sc_law : FnScope N_law ["script"] (defScope s_law) := ⟨rfl, rfl, rfl, by decide +kernel, rfl, by decide +kernel, by decide +kernel⟩
abbrev s_init_AssemblyError : Stmt := match topS 13 with | .ClassDef _ _ _ b _ _ _ _ _ _ _ => b.getD 0 (.Pass ⟨0, 0, 0, 0⟩) | s => s
theorem sc_init_AssemblyError : NdefX.NScope ["self", "what", "__class__"] ["self", "what"] ["__class__"] (defScope s_init_AssemblyError) := NdefX.nscope_by (by decide +kernel)
abbrev s_init_WorkroomError : Stmt := match topS 15 with | .ClassDef _ _ _ b _ _ _ _ _ _ _ => b.getD 0 (.Pass ⟨0, 0, 0, 0⟩) | s => s
theorem sc_init_WorkroomError : NdefX.NScope ["self", "what", "__class__"] ["self", "what"] ["__class__"] (defScope s_init_WorkroomError) := NdefX.nscope_by (by decide +kernel)
def k_LETTERS : D := .str "abcdefghijklmnopqrstuvwxyz"
def k_ORDERS : D := .int 60
def k_STOCK : D := .int 1000000000
def k_WAITING : D := .str "waiting"
def k_STARTED : D := .str "started"
def k_CANCELED : D := .str "canceled"
def g_Workroom___init__ : En → Option Out := (sSeq (sSetF 0 "Workroom" "_bought" fun en => ((dC (.int 0)) en).map Tr.lf)
 (sSeq (sSetF 0 "Workroom" "_stock" fun en => ((dL (lLst aNil)) en).map Tr.lf)
 (sSeq (sSetF 0 "Workroom" "_orders" fun en => ((dL (lLst aNil)) en).map Tr.lf)
 (sSetF 0 "Workroom" "_deeds" fun en => ((lLst aNil) en).map fun ds => .ls (ds.map Tr.lf)))))
def F_Workroom___init__ : DD.Tr → List D → Option (D × DD.Tr) := runP g_Workroom___init__ 1 1 0
def g_Workroom_stock : En → Option Out := (sRet (dL (lListOf (dFld 0 "Workroom" "_stock"))))
def F_Workroom_stock : DD.Tr → List D → Option D := runR g_Workroom_stock 1 1
def g_Workroom_orders : En → Option Out := (sRet (dL (lLc (iEnumK 1 (dFld 0 "Workroom" "_orders")) (gTupD (gsCons (gSet 1) (gsCons (gSet 2) gsNil)) 2) (tBl (d2 gNe (d2 gIx (dVar 2) (dC (.int 3))) (dC k_CANCELED))) (dTup (aCons (dVar 1) (aCons (d2 gEq (d2 gIx (dVar 2) (dC (.int 3))) (dC k_STARTED)) aNil))) [1, 2])))
def F_Workroom_orders : DD.Tr → List D → Option D := runR g_Workroom_orders 3 1
def g_total_area : En → Option Out := (sRet (dCB gSum (aCons (dL (lLc (iAny (dVar 0)) (gTupD (gsCons (gSet 1) (gsCons (gSet 2) gsNil)) 2) fYes (dVar 2) [1, 2])) aNil)))
def F_total_area : List D → Option D := runD g_total_area 3 1
def g_Workroom_totals : En → Option Out := (sSeq (sSet 1 (dL (lLc (iAny (dFld 0 "Workroom" "_orders")) (gSet 2) (tBl (d2 gNe (d2 gIx (dVar 2) (dC (.int 3))) (dC k_CANCELED))) (dCall F_total_area (aCons (d2 gIx (dVar 2) (dC (.int 2))) aNil)) [2])))
 (sRet (dTup (aCons (dFld 0 "Workroom" "_bought") (aCons (dCall F_total_area (aCons (dFld 0 "Workroom" "_stock") aNil)) (aCons (dCB gSum (aCons (dVar 1) aNil)) aNil))))))
def F_Workroom_totals : DD.Tr → List D → Option D := runR g_Workroom_totals 3 1
def g_Workroom__keep : En → Option Out := (sAppF 0 "Workroom" "_deeds" (dTup (aCons (dVar 1) (aCons (dFld 0 "Workroom" "_bought") (aCons (dFld 0 "Workroom" "_stock") (aCons (dFld 0 "Workroom" "_orders") aNil))))))
def F_Workroom__keep : DD.Tr → List D → Option (D × DD.Tr) := runP g_Workroom__keep 2 2 0
def g_Workroom___contains__ : En → Option Out := (sSeq (sIf (tOr2 (tNot1 (tBl (dIsO "int" (dVar 1)))) (tBl (dIsB (dVar 1)))) (sRet (dC (.bl false))) sNil)
 (sRet (dAnd2 (dChain gLe gLe (dC (.int 1)) (dVar 1) (dCB gLen (aCons (dFld 0 "Workroom" "_orders") aNil))) (d2 gNe (d2 gIx (d2 gIx (dFld 0 "Workroom" "_orders") (d2 gSub (dVar 1) (dC (.int 1)))) (dC (.int 3))) (dC k_CANCELED)))))
def F_Workroom___contains__ : DD.Tr → List D → Option D := runR g_Workroom___contains__ 2 2
def g_Workroom__check_waiting : En → Option Out := (sSeq (sIf (tBl (dInO true 0 "Workroom" F_Workroom___contains__ (dVar 1))) (sRaise "WorkroomError" ["what"] (aCons (dC (.str "no such order")) aNil)) sNil)
 (sIf (tBl (d2 gEq (d2 gIx (d2 gIx (dFld 0 "Workroom" "_orders") (d2 gSub (dVar 1) (dC (.int 1)))) (dC (.int 3))) (dC k_STARTED))) (sRaise "WorkroomError" ["what"] (aCons (dC (.str "already started")) aNil)) sNil))
def F_Workroom__check_waiting : DD.Tr → List D → Option D := runR g_Workroom__check_waiting 2 2
def g_added_areas : En → Option Out := (sSeq (sOwd 1)
 (sSeq (sFor (iAny (dVar 0)) (gSet 2) (sFor (iAny (dVar 2)) (gTupD (gsCons (gSet 3) (gsCons (gSet 4) gsNil)) 2) (sPut 1 (dVar 3) (dScal (d2 gAdd (dDget2 (dVar 1) (dVar 3) (dC (.int 0))) (dVar 4))))))
 (fun en => (sRet (dL (lLc (iAny (dL (lSortD (dVar 1)))) (gSet 3) (tBl (d2 gNe (dDget (dVar 1) (dVar 3)) (dC (.int 0)))) (dTup (aCons (dVar 3) (aCons (dDget (dVar 1) (dVar 3)) aNil))) [3]))) (frz 1 en))))
def F_added_areas : List D → Option D := runD g_added_areas 5 1
def g_Workroom_buy : En → Option Out := (sSeq (sSet 3 (dCallR F_added_areas (aCons (dFld 0 "Workroom" "_stock") (aCons (dL (lLst (aCons (dTup (aCons (dVar 1) (aCons (dVar 2) aNil))) aNil))) aNil))))
 (sSeq (sSet 4 (dDget2 (dDictP (dVar 3)) (dVar 1) (dC (.int 0))))
 (sSeq (sIf (tBl (d2 gGt (dVar 4) (dC k_STOCK))) (sRaiseK "WorkroomError" ["what"] (aCons (dC (.str "too much")) aNil)) sNil)
 (sSeq (sDropM (callMV 0 "Workroom" "_keep" F_Workroom__keep (aCons (dC (.str "buy")) aNil)))
 (sSeq (sAugF 0 "Workroom" "_bought" (dVar 2))
 (sSeq (sSetF 0 "Workroom" "_stock" fun en => ((dVar 3) en).map Tr.lf)
 (sRetK (dVar 4))))))))
def F_Workroom_buy : DD.Tr → List D → Option (D × DD.Tr) := runP g_Workroom_buy 5 3 0
def g_check_fit : En → Option Out := (sIf (tNot1 (tBl (dCall F_fits (aCons (dVar 0) (aCons (dVar 1) aNil))))) sNo sNil)
def F_check_fit : List D → Option D := runD g_check_fit 2 2
def g_cell_of : En → Option Out := (sRet (d2 gIx (d2 gIx (dVar 0) (d2 gIx (dVar 1) (dC (.int 0)))) (d2 gIx (dVar 1) (dC (.int 1)))))
def F_cell_of : List D → Option D := runD g_cell_of 2 2
def g_triangle_side : En → Option Out := (sRet (d2 gAdd (dVar 0) (d2 gMulI (dC (.int 3)) (dVar 1))))
def F_triangle_side : List D → Option D := runD g_triangle_side 2 2
def g_plain_piece : En → Option Out := (sSeq (sAsgG (dVar 0) (gTupD (gsCons (gSet 3) (gsCons (gSet 3) (gsCons (gSet 4) (gsCons (gSet 5) gsNil)))) 4))
 (sRet (dTup (aCons (d2 gAdd (d2 gMulI (dVar 5) (dVar 1)) (d2 gMulI (dC (.int 2)) (dVar 2))) (aCons (d2 gAdd (d2 gMulI (dVar 4) (dVar 1)) (d2 gMulI (dC (.int 2)) (dVar 2))) aNil)))))
def F_plain_piece : List D → Option D := runD g_plain_piece 6 3
def g_halves : En → Option Out := (sRet (dTup (aCons (d2 gIx (dVar 0) (dC (.int 0))) (aCons (d2 gIx (dVar 0) (d1 gNeg (dC (.int 1)))) aNil))))
def F_halves : List D → Option D := runD g_halves 1 1
def g_areas_of_patch : En → Option Out := (sSeq (sSet 4 (dCall F_cell_of (aCons (dVar 0) (aCons (dVar 1) aNil))))
 (sSeq (sIf (tBl (dCall F_is_fabric (aCons (dVar 4) aNil))) (sSeq (sAsgG (dCall F_plain_piece (aCons (dVar 1) (aCons (dVar 2) (aCons (dVar 3) aNil)))) (gTupD (gsCons (gSet 6) (gsCons (gSet 7) gsNil)) 2))
 (sRet (dL (lLst (aCons (dTup (aCons (dVar 4) (aCons (d2 gMulI (d2 gMulI (dC (.int 2)) (dVar 6)) (dVar 7)) aNil))) aNil))))) sNil)
 (sSeq (sSet 5 (dCall F_triangle_side (aCons (dVar 2) (aCons (dVar 3) aNil))))
 (sRet (dL (lLc (iAny (dCall F_halves (aCons (dVar 4) aNil))) (gSet 8) fYes (dTup (aCons (dVar 8) (aCons (d2 gMulI (dVar 5) (dVar 5)) aNil))) [8]))))))
def F_areas_of_patch : List D → Option D := runD g_areas_of_patch 9 4
def g_fabric_needed : En → Option Out := (sSeq (sDrop (dCall F_check_fit (aCons (dVar 0) (aCons (dVar 1) aNil))))
 (sSeq (sSet 4 (dL (lLc (iAny (dVar 1)) (gSet 5) fYes (dCall F_areas_of_patch (aCons (dVar 0) (aCons (dVar 5) (aCons (dVar 2) (aCons (dVar 3) aNil))))) [5])))
 (sRet (dCallS F_added_areas (dVar 4)))))
def F_fabric_needed : List D → Option D := runD g_fabric_needed 6 4
def g_less : En → Option Out := (sRet (dL (lLc (iAny (dVar 0)) (gTupD (gsCons (gSet 1) (gsCons (gSet 2) gsNil)) 2) fYes (dTup (aCons (dVar 1) (aCons (d1 gNeg (dVar 2)) aNil))) [1, 2])))
def F_less : List D → Option D := runD g_less 3 1
def g_Workroom_take : En → Option Out := (sSeq (sIf (tNot1 (tBl (dCall F_fits (aCons (dVar 1) (aCons (dVar 2) aNil))))) (sRaiseK "WorkroomError" ["what"] (aCons (dC (.str "patches do not fit")) aNil)) sNil)
 (sSeq (sIf (tBl (d2 gGe (dCB gLen (aCons (dFld 0 "Workroom" "_orders") aNil)) (dC k_ORDERS))) (sRaiseK "WorkroomError" ["what"] (aCons (dC (.str "too many orders")) aNil)) sNil)
 (sSeq (sSet 5 (dCall F_fabric_needed (aCons (dVar 1) (aCons (dVar 2) (aCons (dVar 3) (aCons (dVar 4) aNil))))))
 (sSeq (sSet 6 (dCallR F_added_areas (aCons (dFld 0 "Workroom" "_stock") (aCons (dCall F_less (aCons (dVar 5) aNil)) aNil))))
 (sSeq (sIf (tBl (dCB gAny (aCons (dL (lLc (iAny (dVar 6)) (gTupD (gsCons (gSet 7) (gsCons (gSet 8) gsNil)) 2) fYes (d2 gLt (dVar 8) (dC (.int 0))) [7, 8])) aNil))) (sRaiseK "WorkroomError" ["what"] (aCons (dC (.str "not enough")) aNil)) sNil)
 (sSeq (sDropM (callMV 0 "Workroom" "_keep" F_Workroom__keep (aCons (dC (.str "take")) aNil)))
 (sSeq (sSetF 0 "Workroom" "_stock" fun en => ((dVar 6) en).map Tr.lf)
 (sSeq (sSetF 0 "Workroom" "_orders" fun en => ((d2 gAddB (dFld 0 "Workroom" "_orders") (dL (lLst (aCons (dTup (aCons (dVar 1) (aCons (dVar 2) (aCons (dVar 5) (aCons (dC k_WAITING) aNil))))) aNil)))) en).map Tr.lf)
 (sRetK (dCB gLen (aCons (dFld 0 "Workroom" "_orders") aNil)))))))))))
def F_Workroom_take : DD.Tr → List D → Option (D × DD.Tr) := runP g_Workroom_take 9 5 0
def g_with_state : En → Option Out := (sSeq (sAsgG (d2 gIx (dVar 0) (d2 gSub (dVar 1) (dC (.int 1)))) (gTupD (gsCons (gSet 3) (gsCons (gSet 4) (gsCons (gSet 5) (gsCons (gSet 6) gsNil)))) 4))
 (sRet (d2 gAddB (d2 gAddB (dCutA (dVar 0) oNo (oInt (d2 gSub (dVar 1) (dC (.int 1))))) (dL (lLst (aCons (dTup (aCons (dVar 3) (aCons (dVar 4) (aCons (dVar 5) (aCons (dVar 2) aNil))))) aNil)))) (dCutA (dVar 0) (oInt (dVar 1)) oNo))))
def F_with_state : List D → Option D := runD g_with_state 7 3
def g_Workroom_cancel : En → Option Out := (sSeq (sXK (dMethR 0 "Workroom" "_check_waiting" F_Workroom__check_waiting (aCons (dVar 1) aNil)) fun _ en => some (.nx en))
 (sSeq (sSet 2 (d2 gIx (d2 gIx (dFld 0 "Workroom" "_orders") (d2 gSub (dVar 1) (dC (.int 1)))) (dC (.int 2))))
 (sSeq (sDropM (callMV 0 "Workroom" "_keep" F_Workroom__keep (aCons (dC (.str "cancel")) aNil)))
 (sSeq (sSetF 0 "Workroom" "_stock" fun en => ((dCallR F_added_areas (aCons (dFld 0 "Workroom" "_stock") (aCons (dVar 2) aNil))) en).map Tr.lf)
 (sSeq (sSetF 0 "Workroom" "_orders" fun en => ((dCall F_with_state (aCons (dFld 0 "Workroom" "_orders") (aCons (dVar 1) (aCons (dC k_CANCELED) aNil)))) en).map Tr.lf)
 (sRetK (dL (lListOf (dVar 2)))))))))
def F_Workroom_cancel : DD.Tr → List D → Option (D × DD.Tr) := runP g_Workroom_cancel 3 2 0
def g_Assembly_pattern : En → Option Out := (sRet (dFld 0 "Assembly" "_pattern"))
def F_Assembly_pattern : DD.Tr → List D → Option D := runR g_Assembly_pattern 1 1
def g_Assembly_patches : En → Option Out := (sRet (dFld 0 "Assembly" "_patches"))
def F_Assembly_patches : DD.Tr → List D → Option D := runR g_Assembly_patches 1 1
def g_Workroom_start : En → Option Out := (sSeq (sXK (dMethR 0 "Workroom" "_check_waiting" F_Workroom__check_waiting (aCons (dVar 1) aNil)) fun _ en => some (.nx en))
 (sSeq (sAsgG (d2 gIx (dFld 0 "Workroom" "_orders") (d2 gSub (dVar 1) (dC (.int 1)))) (gTupD (gsCons (gSet 2) (gsCons (gSet 3) (gsCons (gSet 4) (gsCons (gSet 4) gsNil)))) 4))
 (sSeq (sDropM (callMV 0 "Workroom" "_keep" F_Workroom__keep (aCons (dC (.str "start")) aNil)))
 (sSeq (sSetF 0 "Workroom" "_orders" fun en => ((dCall F_with_state (aCons (dFld 0 "Workroom" "_orders") (aCons (dVar 1) (aCons (dC k_STARTED) aNil)))) en).map Tr.lf)
 (sRetNew (newM "Assembly" F_Assembly___init__ (aCons (dVar 2) (aCons (dVar 3) aNil))))))))
def F_Workroom_start : DD.Tr → List D → Option (D × DD.Tr) := runPD g_Workroom_start 5 2 0
def g_Workroom_undo : En → Option Out := (sSeq (sIf (tNot1 (tScalF 0 "Workroom" "_deeds" (tTr (dFld 0 "Workroom" "_deeds")))) (sRetK (dC (.bl false))) sNil)
 (sSeq (sPopF4 0 1 "Workroom" "_deeds" "_bought" "_stock" "_orders")
 (sRetK (dVar 1))))
def F_Workroom_undo : DD.Tr → List D → Option (D × DD.Tr) := runP g_Workroom_undo 2 1 0
def g_Workroom___len__ : En → Option Out := (sRet (dCB gLen (aCons (dProp 0 "Workroom" F_Workroom_orders) aNil)))
def F_Workroom___len__ : DD.Tr → List D → Option D := runR g_Workroom___len__ 1 1
def g__law_do : En → Option Out := (sTryR (bIf (tBl (d2 gEq (dVar 1) (dC (.int 0)))) (bRet (callM 0 "Workroom" "buy" F_Workroom_buy (aCons (d2 gIx (dVar 2) (dC (.int 0))) (aCons (d2 gIx (dVar 2) (dC (.int 1))) aNil))))
 (bIf (tBl (d2 gEq (dVar 1) (dC (.int 1)))) (bRet (callM 0 "Workroom" "take" F_Workroom_take (aCons (d2 gIx (dVar 2) (dC (.int 0))) (aCons (d2 gIx (dVar 2) (dC (.int 1))) (aCons (d2 gIx (dVar 2) (dC (.int 2))) (aCons (d2 gIx (dVar 2) (dC (.int 3))) aNil))))))
 (fun _ => none))) "WorkroomError" ["what"] 3 (fun fs => (sHifK (tOr2 (tNot1 (tBl (dC (.bl true)))) (tOr2 (tBl (dC (.bl false))) (tBl (dC (.bl false))))) (sRetK (dC .non))
 (sRetK (dTup (aCons (dC (.str "refused")) (aCons (fun _ => fs[0]?) aNil)))))))
def F__law_do : DD.Tr → List D → Option (D × DD.Tr) := runP g__law_do 5 3 0
def g_law : En → Option Out := (sSeq (sSet 1 (dCall F__law_draw (aCons (dVar 0) (aCons (dC (.int 0)) (aCons (dL (lLst (aCons (dC (.int 2)) (aCons (dC (.int 5)) (aCons (dC (.int 26)) (aCons (dC (.int 61)) (aCons (dC (.int 61)) aNil))))))) aNil)))))
 (sSeq (sNewM 2 (newM "Workroom" F_Workroom___init__ aNil))
 (sSeq (sSet 3 (d2 gIx (dC (.str "abcdefghijklmnopqrstuvwxyz")) (d2 gIx (dVar 1) (dC (.int 2)))))
 (sSeq (sIf (tBl (d2 gEq (d2 gIx (dVar 1) (dC (.int 0))) (dC (.int 0)))) (sSeq (sFor (iR1 (aCons (dC (.int 999)) aNil)) (gSet 4) (sDropM (callMV 2 "Workroom" "buy" F_Workroom_buy (aCons (dVar 3) (aCons (dC (.int 1000000)) aNil)))))
 (sSeq (sSet 5 (d2 gAdd (dC (.int 999998)) (d2 gMod (d2 gIx (dVar 1) (dC (.int 1))) (dC (.int 3)))))
 (sSeq (sIfV (tvCmp gNe (callP 2 F__law_do (aCons (dC (.int 0)) (aCons (dTup (aCons (dVar 3) (aCons (dVar 5) aNil))) aNil))) (d2 gAdd (dC (.int 999000000)) (dVar 5))) (sRet (dC (.bl false))) sNil)
 (sSeq (sSet 6 (d2 gSub (dC (.int 1000000000)) (d2 gIx (dProp 2 "Workroom" F_Workroom_totals) (dC (.int 0)))))
 (sSeq (sFor (iAny (dL (lLst (aCons (d2 gAdd (dVar 6) (dC (.int 1))) (aCons (d2 gAdd (dVar 6) (dC (.int 2))) aNil))))) (gSet 7) (sIfV (tvCmp gNe (callP 2 F__law_do (aCons (dC (.int 0)) (aCons (dTup (aCons (dVar 3) (aCons (dVar 7) aNil))) aNil))) (dTup (aCons (dC (.str "refused")) (aCons (dC (.str "too much")) aNil)))) (sRet (dC (.bl false))) sNil))
 (sSeq (sIfV (tvAnd (tvOf (tBl (d2 gGt (dVar 6) (dC (.int 0))))) (tvCmp gNe (callP 2 F__law_do (aCons (dC (.int 0)) (aCons (dTup (aCons (dVar 3) (aCons (dVar 6) aNil))) aNil))) (dC (.int 1000000000)))) (sRet (dC (.bl false))) sNil)
 (sSeq (sSet 8 (d2 gIx (dC (.str "abcdefghijklmnopqrstuvwxyz")) (d2 gMod (d2 gAdd (d2 gIx (dVar 1) (dC (.int 2))) (dC (.int 1))) (dC (.int 26)))))
 (sRetV (vCmp gEq (callP 2 F__law_do (aCons (dC (.int 0)) (aCons (dTup (aCons (dVar 8) (aCons (dC (.int 1)) aNil))) aNil))) (dC (.int 1))))))))))) sNil)
 (sSeq (sDropM (callMV 2 "Workroom" "buy" F_Workroom_buy (aCons (dVar 3) (aCons (dC (.int 1000000)) aNil))))
 (sSeq (sFor (iR1 (aCons (dC (.int 60)) aNil)) (gSet 4) (sSeq (sIfV (tvCmp gNe (callMV 2 "Workroom" "take" F_Workroom_take (aCons (dTup (aCons (dTup (aCons (dVar 3) aNil)) aNil)) (aCons (dTup (aCons (dTup (aCons (dC (.int 0)) (aCons (dC (.int 0)) (aCons (dC (.int 1)) (aCons (dC (.int 1)) aNil))))) aNil)) (aCons (d2 gAdd (dC (.int 1)) (d2 gIx (dVar 1) (dC (.int 1)))) (aCons (dC (.int 0)) aNil))))) (d2 gAdd (dVar 4) (dC (.int 1)))) (sRet (dC (.bl false))) sNil)
 (sIf (tBl (d2 gEq (d2 gAdd (dVar 4) (dC (.int 1))) (d2 gIx (dVar 1) (dC (.int 3))))) (sDropM (callMV 2 "Workroom" "cancel" F_Workroom_cancel (aCons (d2 gAdd (dVar 4) (dC (.int 1))) aNil))) (sIf (tBl (d2 gEq (d2 gAdd (dVar 4) (dC (.int 1))) (d2 gIx (dVar 1) (dC (.int 4))))) (sDropM (callMV 2 "Workroom" "start" F_Workroom_start (aCons (d2 gAdd (dVar 4) (dC (.int 1))) aNil))) sNil))))
 (sSeq (sIfV (tvCmp gNe (callP 2 F__law_do (aCons (dC (.int 1)) (aCons (dTup (aCons (dTup (aCons (dTup (aCons (dVar 3) aNil)) aNil)) (aCons (dTup (aCons (dTup (aCons (dC (.int 0)) (aCons (dC (.int 0)) (aCons (dC (.int 1)) (aCons (dC (.int 1)) aNil))))) aNil)) (aCons (dC (.int 1)) (aCons (dC (.int 0)) aNil))))) aNil))) (dTup (aCons (dC (.str "refused")) (aCons (dC (.str "too many orders")) aNil)))) (sRet (dC (.bl false))) sNil)
 (sRetV (vAnd (vCmp gInL (callMV 2 "Workroom" "undo" F_Workroom_undo aNil) (dL (lLst (aCons (dC (.str "take")) (aCons (dC (.str "cancel")) (aCons (dC (.str "start")) aNil)))))) (d2 gGe (dCB gLen (aCons (dProp 2 "Workroom" F_Workroom_orders) aNil)) (dC (.int 58))))))))))))
def F_law : List D → Option D := runD g_law 9 1
structure Tx (P : Program) (K : PySem.W.Frag) (mg : Str → Option Value) where
  C_AssemblyError : Addr
  I_AssemblyError : Addr
  fdI_AssemblyError : FuncData
  E_AssemblyError : ∀ (w : World) (base : Heap), ExcT P w K mg base "AssemblyError" ["what"] C_AssemblyError I_AssemblyError fdI_AssemblyError
  C_WorkroomError : Addr
  I_WorkroomError : Addr
  fdI_WorkroomError : FuncData
  E_WorkroomError : ∀ (w : World) (base : Heap), ExcT P w K mg base "WorkroomError" ["what"] C_WorkroomError I_WorkroomError fdI_WorkroomError
  is_WorkroomError : IsC K C_WorkroomError
  S_SewnError : Addr
  gS_SewnError : mg "SewnError" = some (.ref S_SewnError)
  S_WorkroomError : Addr
  gS_WorkroomError : mg "WorkroomError" = some (.ref S_WorkroomError)
  S_AssemblyError : Addr
  gS_AssemblyError : mg "AssemblyError" = some (.ref S_AssemblyError)
  S_FabricError : Addr
  gS_FabricError : mg "FabricError" = some (.ref S_FabricError)
  exm_WorkroomError_SewnError : PySem.W.exmOne K (.ref C_WorkroomError) (.ref S_SewnError) = some true
  kit_WorkroomError_SewnError : PySem.W.kitOne K (.ref C_WorkroomError) (.ref S_SewnError) = some true
  exm_WorkroomError_WorkroomError : PySem.W.exmOne K (.ref C_WorkroomError) (.ref S_WorkroomError) = some true
  kit_WorkroomError_WorkroomError : PySem.W.kitOne K (.ref C_WorkroomError) (.ref S_WorkroomError) = some true
  kit_WorkroomError_AssemblyError : PySem.W.kitOne K (.ref C_WorkroomError) (.ref S_AssemblyError) = some false
  kit_WorkroomError_FabricError : PySem.W.kitOne K (.ref C_WorkroomError) (.ref S_FabricError) = some false
  C_Assembly : Addr
  nC_Assembly : PySem.W.nsIn K mainGlobals "Assembly" = some (some (.ref C_Assembly))
  gC_Assembly : mg "Assembly" = some (.ref C_Assembly)
  cls_Assembly : Cls K C_Assembly
  na_Assembly__pattern : NoAttr K C_Assembly "_pattern"
  na_Assembly__patches : NoAttr K C_Assembly "_patches"
  na_Assembly__sections : NoAttr K C_Assembly "_sections"
  na_Assembly__joins : NoAttr K C_Assembly "_joins"
  C_Workroom : Addr
  nC_Workroom : PySem.W.nsIn K mainGlobals "Workroom" = some (some (.ref C_Workroom))
  gC_Workroom : mg "Workroom" = some (.ref C_Workroom)
  cls_Workroom : Cls K C_Workroom
  na_Workroom__bought : NoAttr K C_Workroom "_bought"
  na_Workroom__stock : NoAttr K C_Workroom "_stock"
  na_Workroom__orders : NoAttr K C_Workroom "_orders"
  na_Workroom__deeds : NoAttr K C_Workroom "_deeds"
  f_Workroom___init__ : Addr
  fd_Workroom___init__ : FuncData
  F_Workroom___init__ : Fun K "__init__" "Workroom.__init__" s_Workroom___init__ f_Workroom___init__ fd_Workroom___init__
  b_Workroom___init__ : Binds K fd_Workroom___init__ ["self"] []
  mk_Workroom : Mk K C_Workroom f_Workroom___init__
  f_Workroom_stock : Addr
  fd_Workroom_stock : FuncData
  F_Workroom_stock : Fun K "stock" "Workroom.stock" s_Workroom_stock f_Workroom_stock fd_Workroom_stock
  b_Workroom_stock : Binds K fd_Workroom_stock ["self"] []
  pa_Workroom_stock : Addr
  po_Workroom_stock : PropOf K C_Workroom "stock" pa_Workroom_stock f_Workroom_stock
  f_Workroom_orders : Addr
  fd_Workroom_orders : FuncData
  F_Workroom_orders : Fun K "orders" "Workroom.orders" s_Workroom_orders f_Workroom_orders fd_Workroom_orders
  b_Workroom_orders : Binds K fd_Workroom_orders ["self"] []
  pa_Workroom_orders : Addr
  po_Workroom_orders : PropOf K C_Workroom "orders" pa_Workroom_orders f_Workroom_orders
  f_Workroom_totals : Addr
  fd_Workroom_totals : FuncData
  F_Workroom_totals : Fun K "totals" "Workroom.totals" s_Workroom_totals f_Workroom_totals fd_Workroom_totals
  b_Workroom_totals : Binds K fd_Workroom_totals ["self"] []
  pa_Workroom_totals : Addr
  po_Workroom_totals : PropOf K C_Workroom "totals" pa_Workroom_totals f_Workroom_totals
  f_Workroom__keep : Addr
  fd_Workroom__keep : FuncData
  F_Workroom__keep : Fun K "_keep" "Workroom._keep" s_Workroom__keep f_Workroom__keep fd_Workroom__keep
  b_Workroom__keep : Binds K fd_Workroom__keep ["self", "deed"] []
  m_Workroom__keep : Meth K C_Workroom "_keep" f_Workroom__keep
  f_Workroom___contains__ : Addr
  fd_Workroom___contains__ : FuncData
  F_Workroom___contains__ : Fun K "__contains__" "Workroom.__contains__" s_Workroom___contains__ f_Workroom___contains__ fd_Workroom___contains__
  b_Workroom___contains__ : Binds K fd_Workroom___contains__ ["self", "order"] []
  sp_Workroom___contains__ : SpecOf K C_Workroom "__contains__" f_Workroom___contains__
  f_Workroom__check_waiting : Addr
  fd_Workroom__check_waiting : FuncData
  F_Workroom__check_waiting : Fun K "_check_waiting" "Workroom._check_waiting" s_Workroom__check_waiting f_Workroom__check_waiting fd_Workroom__check_waiting
  b_Workroom__check_waiting : Binds K fd_Workroom__check_waiting ["self", "order"] []
  m_Workroom__check_waiting : Meth K C_Workroom "_check_waiting" f_Workroom__check_waiting
  f_Workroom_buy : Addr
  fd_Workroom_buy : FuncData
  F_Workroom_buy : Fun K "buy" "Workroom.buy" s_Workroom_buy f_Workroom_buy fd_Workroom_buy
  b_Workroom_buy : Binds K fd_Workroom_buy ["self", "fabric", "area"] []
  m_Workroom_buy : Meth K C_Workroom "buy" f_Workroom_buy
  f_Workroom_take : Addr
  fd_Workroom_take : FuncData
  F_Workroom_take : Fun K "take" "Workroom.take" s_Workroom_take f_Workroom_take fd_Workroom_take
  b_Workroom_take : Binds K fd_Workroom_take ["self", "pattern", "patches", "cell_size", "allowance"] []
  m_Workroom_take : Meth K C_Workroom "take" f_Workroom_take
  f_Workroom_cancel : Addr
  fd_Workroom_cancel : FuncData
  F_Workroom_cancel : Fun K "cancel" "Workroom.cancel" s_Workroom_cancel f_Workroom_cancel fd_Workroom_cancel
  b_Workroom_cancel : Binds K fd_Workroom_cancel ["self", "order"] []
  m_Workroom_cancel : Meth K C_Workroom "cancel" f_Workroom_cancel
  f_Assembly___init__ : Addr
  fd_Assembly___init__ : FuncData
  F_Assembly___init__ : Fun K "__init__" "Assembly.__init__" s_Assembly___init__ f_Assembly___init__ fd_Assembly___init__
  b_Assembly___init__ : Binds K fd_Assembly___init__ ["self", "pattern", "patches"] []
  mk_Assembly : Mk K C_Assembly f_Assembly___init__
  f_Assembly___len__ : Addr
  fd_Assembly___len__ : FuncData
  F_Assembly___len__ : Fun K "__len__" "Assembly.__len__" s_Assembly___len__ f_Assembly___len__ fd_Assembly___len__
  b_Assembly___len__ : Binds K fd_Assembly___len__ ["self"] []
  sp_Assembly___len__ : SpecOf K C_Assembly "__len__" f_Assembly___len__
  f_Assembly_pattern : Addr
  fd_Assembly_pattern : FuncData
  F_Assembly_pattern : Fun K "pattern" "Assembly.pattern" s_Assembly_pattern f_Assembly_pattern fd_Assembly_pattern
  b_Assembly_pattern : Binds K fd_Assembly_pattern ["self"] []
  pa_Assembly_pattern : Addr
  po_Assembly_pattern : PropOf K C_Assembly "pattern" pa_Assembly_pattern f_Assembly_pattern
  f_Assembly_patches : Addr
  fd_Assembly_patches : FuncData
  F_Assembly_patches : Fun K "patches" "Assembly.patches" s_Assembly_patches f_Assembly_patches fd_Assembly_patches
  b_Assembly_patches : Binds K fd_Assembly_patches ["self"] []
  pa_Assembly_patches : Addr
  po_Assembly_patches : PropOf K C_Assembly "patches" pa_Assembly_patches f_Assembly_patches
  f_Assembly_sections : Addr
  fd_Assembly_sections : FuncData
  F_Assembly_sections : Fun K "sections" "Assembly.sections" s_Assembly_sections f_Assembly_sections fd_Assembly_sections
  b_Assembly_sections : Binds K fd_Assembly_sections ["self"] []
  pa_Assembly_sections : Addr
  po_Assembly_sections : PropOf K C_Assembly "sections" pa_Assembly_sections f_Assembly_sections
  f_Assembly_sewn_length : Addr
  fd_Assembly_sewn_length : FuncData
  F_Assembly_sewn_length : Fun K "sewn_length" "Assembly.sewn_length" s_Assembly_sewn_length f_Assembly_sewn_length fd_Assembly_sewn_length
  b_Assembly_sewn_length : Binds K fd_Assembly_sewn_length ["self"] []
  pa_Assembly_sewn_length : Addr
  po_Assembly_sewn_length : PropOf K C_Assembly "sewn_length" pa_Assembly_sewn_length f_Assembly_sewn_length
  f_Workroom_start : Addr
  fd_Workroom_start : FuncData
  F_Workroom_start : Fun K "start" "Workroom.start" s_Workroom_start f_Workroom_start fd_Workroom_start
  b_Workroom_start : Binds K fd_Workroom_start ["self", "order"] []
  m_Workroom_start : Meth K C_Workroom "start" f_Workroom_start
  f_Workroom_undo : Addr
  fd_Workroom_undo : FuncData
  F_Workroom_undo : Fun K "undo" "Workroom.undo" s_Workroom_undo f_Workroom_undo fd_Workroom_undo
  b_Workroom_undo : Binds K fd_Workroom_undo ["self"] []
  m_Workroom_undo : Meth K C_Workroom "undo" f_Workroom_undo
  f_Workroom___len__ : Addr
  fd_Workroom___len__ : FuncData
  F_Workroom___len__ : Fun K "__len__" "Workroom.__len__" s_Workroom___len__ f_Workroom___len__ fd_Workroom___len__
  b_Workroom___len__ : Binds K fd_Workroom___len__ ["self"] []
  sp_Workroom___len__ : SpecOf K C_Workroom "__len__" f_Workroom___len__
  f__law_cell : Addr
  fd__law_cell : FuncData
  F__law_cell : Fun K "_law_cell" "_law_cell" s__law_cell f__law_cell fd__law_cell
  g__law_cell : mg "_law_cell" = some (.ref f__law_cell)
  b__law_cell : Binds K fd__law_cell ["script", "k"] []
  f__law_draw : Addr
  fd__law_draw : FuncData
  F__law_draw : Fun K "_law_draw" "_law_draw" s__law_draw f__law_draw fd__law_draw
  g__law_draw : mg "_law_draw" = some (.ref f__law_draw)
  b__law_draw : Binds K fd__law_draw ["script", "k", "sizes"] []
  f_total_area : Addr
  fd_total_area : FuncData
  F_total_area : Fun K "total_area" "total_area" s_total_area f_total_area fd_total_area
  g_total_area : mg "total_area" = some (.ref f_total_area)
  b_total_area : Binds K fd_total_area ["areas"] []
  f_added_areas : Addr
  fd_added_areas : FuncData
  F_added_areas : Fun K "added_areas" "added_areas" s_added_areas f_added_areas fd_added_areas
  g_added_areas : mg "added_areas" = some (.ref f_added_areas)
  bs_added_areas : ∀ rest : List Value, PySem.bindArgs fd_added_areas { pos := rest } = (do
    let t ← PySem.newTuple rest
    pure [("lists", t)])
  f_sides : Addr
  fd_sides : FuncData
  F_sides : Fun K "sides" "sides" s_sides f_sides fd_sides
  g_sides : mg "sides" = some (.ref f_sides)
  b_sides : Binds K fd_sides ["patches"] []
  f_size_of : Addr
  fd_size_of : FuncData
  F_size_of : Fun K "size_of" "size_of" s_size_of f_size_of fd_size_of
  g_size_of : mg "size_of" = some (.ref f_size_of)
  b_size_of : Binds K fd_size_of ["pattern"] []
  f_cells_of : Addr
  fd_cells_of : FuncData
  F_cells_of : Fun K "cells_of" "cells_of" s_cells_of f_cells_of fd_cells_of
  g_cells_of : mg "cells_of" = some (.ref f_cells_of)
  b_cells_of : Binds K fd_cells_of ["patch"] []
  f_is_fabric : Addr
  fd_is_fabric : FuncData
  F_is_fabric : Fun K "is_fabric" "is_fabric" s_is_fabric f_is_fabric fd_is_fabric
  g_is_fabric : mg "is_fabric" = some (.ref f_is_fabric)
  b_is_fabric : Binds K fd_is_fabric ["word"] []
  f_can_be_cut : Addr
  fd_can_be_cut : FuncData
  F_can_be_cut : Fun K "can_be_cut" "can_be_cut" s_can_be_cut f_can_be_cut fd_can_be_cut
  g_can_be_cut : mg "can_be_cut" = some (.ref f_can_be_cut)
  b_can_be_cut : Binds K fd_can_be_cut ["pattern", "patch"] []
  f_fits : Addr
  fd_fits : FuncData
  F_fits : Fun K "fits" "fits" s_fits f_fits fd_fits
  g_fits : mg "fits" = some (.ref f_fits)
  b_fits : Binds K fd_fits ["pattern", "patches"] []
  f_check_fit : Addr
  fd_check_fit : FuncData
  F_check_fit : Fun K "check_fit" "check_fit" s_check_fit f_check_fit fd_check_fit
  g_check_fit : mg "check_fit" = some (.ref f_check_fit)
  b_check_fit : Binds K fd_check_fit ["pattern", "patches"] []
  f_cell_of : Addr
  fd_cell_of : FuncData
  F_cell_of : Fun K "cell_of" "cell_of" s_cell_of f_cell_of fd_cell_of
  g_cell_of : mg "cell_of" = some (.ref f_cell_of)
  b_cell_of : Binds K fd_cell_of ["pattern", "patch"] []
  f_triangle_side : Addr
  fd_triangle_side : FuncData
  F_triangle_side : Fun K "triangle_side" "triangle_side" s_triangle_side f_triangle_side fd_triangle_side
  g_triangle_side : mg "triangle_side" = some (.ref f_triangle_side)
  b_triangle_side : Binds K fd_triangle_side ["cell_size", "allowance"] []
  f_plain_piece : Addr
  fd_plain_piece : FuncData
  F_plain_piece : Fun K "plain_piece" "plain_piece" s_plain_piece f_plain_piece fd_plain_piece
  g_plain_piece : mg "plain_piece" = some (.ref f_plain_piece)
  b_plain_piece : Binds K fd_plain_piece ["patch", "cell_size", "allowance"] []
  f_halves : Addr
  fd_halves : FuncData
  F_halves : Fun K "halves" "halves" s_halves f_halves fd_halves
  g_halves : mg "halves" = some (.ref f_halves)
  b_halves : Binds K fd_halves ["cell"] []
  f_areas_of_patch : Addr
  fd_areas_of_patch : FuncData
  F_areas_of_patch : Fun K "areas_of_patch" "areas_of_patch" s_areas_of_patch f_areas_of_patch fd_areas_of_patch
  g_areas_of_patch : mg "areas_of_patch" = some (.ref f_areas_of_patch)
  b_areas_of_patch : Binds K fd_areas_of_patch ["pattern", "patch", "cell_size", "allowance"] []
  f_fabric_needed : Addr
  fd_fabric_needed : FuncData
  F_fabric_needed : Fun K "fabric_needed" "fabric_needed" s_fabric_needed f_fabric_needed fd_fabric_needed
  g_fabric_needed : mg "fabric_needed" = some (.ref f_fabric_needed)
  b_fabric_needed : Binds K fd_fabric_needed ["pattern", "patches", "cell_size", "allowance"] []
  f_less : Addr
  fd_less : FuncData
  F_less : Fun K "less" "less" s_less f_less fd_less
  g_less : mg "less" = some (.ref f_less)
  b_less : Binds K fd_less ["areas"] []
  f_with_state : Addr
  fd_with_state : FuncData
  F_with_state : Fun K "with_state" "with_state" s_with_state f_with_state fd_with_state
  g_with_state : mg "with_state" = some (.ref f_with_state)
  b_with_state : Binds K fd_with_state ["orders", "number", "state"] []
  f_rectangle_of : Addr
  fd_rectangle_of : FuncData
  F_rectangle_of : Fun K "rectangle_of" "rectangle_of" s_rectangle_of f_rectangle_of fd_rectangle_of
  g_rectangle_of : mg "rectangle_of" = some (.ref f_rectangle_of)
  b_rectangle_of : Binds K fd_rectangle_of ["section"] []
  f_in_order : Addr
  fd_in_order : FuncData
  F_in_order : Fun K "in_order" "in_order" s_in_order f_in_order fd_in_order
  g_in_order : mg "in_order" = some (.ref f_in_order)
  b_in_order : Binds K fd_in_order ["sections"] []
  f_first_sections : Addr
  fd_first_sections : FuncData
  F_first_sections : Fun K "first_sections" "first_sections" s_first_sections f_first_sections fd_first_sections
  g_first_sections : mg "first_sections" = some (.ref f_first_sections)
  b_first_sections : Binds K fd_first_sections ["patches"] []
  f__law_do : Addr
  fd__law_do : FuncData
  F__law_do : Fun K "_law_do" "_law_do" s__law_do f__law_do fd__law_do
  g__law_do : mg "_law_do" = some (.ref f__law_do)
  b__law_do : Binds K fd__law_do ["room", "kind", "arguments"] []
  n_all : mg "all" = none
  n_any : mg "any" = none
  n_bool : mg "bool" = none
  n_dict : mg "dict" = none
  n_enumerate : mg "enumerate" = none
  n_int : mg "int" = none
  n_isinstance : mg "isinstance" = none
  n_len : mg "len" = none
  n_list : mg "list" = none
  n_max : mg "max" = none
  n_range : mg "range" = none
  n_sorted : mg "sorted" = none
  n_sum : mg "sum" = none
  n_tuple : mg "tuple" = none
  v_LETTERS : V
  u_LETTERS : Value
  g_LETTERS : mg "LETTERS" = some u_LETTERS
  r_LETTERS : RelV v_LETTERS u_LETTERS
  d_LETTERS : ∀ B, Rp K B v_LETTERS k_LETTERS
  v_ORDERS : V
  u_ORDERS : Value
  g_ORDERS : mg "ORDERS" = some u_ORDERS
  r_ORDERS : RelV v_ORDERS u_ORDERS
  d_ORDERS : ∀ B, Rp K B v_ORDERS k_ORDERS
  v_STOCK : V
  u_STOCK : Value
  g_STOCK : mg "STOCK" = some u_STOCK
  r_STOCK : RelV v_STOCK u_STOCK
  d_STOCK : ∀ B, Rp K B v_STOCK k_STOCK
  v_WAITING : V
  u_WAITING : Value
  g_WAITING : mg "WAITING" = some u_WAITING
  r_WAITING : RelV v_WAITING u_WAITING
  d_WAITING : ∀ B, Rp K B v_WAITING k_WAITING
  v_STARTED : V
  u_STARTED : Value
  g_STARTED : mg "STARTED" = some u_STARTED
  r_STARTED : RelV v_STARTED u_STARTED
  d_STARTED : ∀ B, Rp K B v_STARTED k_STARTED
  v_CANCELED : V
  u_CANCELED : Value
  g_CANCELED : mg "CANCELED" = some u_CANCELED
  r_CANCELED : RelV v_CANCELED u_CANCELED
  d_CANCELED : ∀ B, Rp K B v_CANCELED k_CANCELED
section
variable {P : Program} {w : World} {K : PySem.W.Frag} {mg : Str → Option Value} {base : Heap}
theorem ok__law_cell (T : Tx P K mg) : FnOk P w K mg base CX0 1 T.f__law_cell T.fd__law_cell ["script", "k"] (spD K F__law_cell) :=
  fn_ok (k := 0) T.F__law_cell sc__law_cell (by decide) fun cdv A outer s H E hr => ⟨_,
  (dss_cons (ds_if (dt_lt (de_var 1 (pv 1)) (de_len rfl T.n_len (de_var 0 (pv 0))))
 (dss_one (ds_ret (de_at (de_var 0 (pv 0)) (de_var 1 (pv 1)) (fun _ _ => rfl))))
 dss_nil)
 (dss_one (ds_ret de_int)))⟩
theorem ok__law_draw (T : Tx P K mg) : FnOk P w K mg base CX0 2 T.f__law_draw T.fd__law_draw ["script", "k", "sizes"] (spD K F__law_draw) :=
  fn_ok (k := 1) T.F__law_draw sc__law_draw (by decide) fun cdv A outer s H E hr => ⟨_,
  (dss_cons (ds_setH (i := 3) sc__law_draw.nd rfl (by first | exact .inl rfl | exact .inr rfl) (de_call (ok__law_cell T) (hr.mono (by decide)) rfl T.g__law_cell T.F__law_cell.kp T.b__law_cell (da_cons (de_var 0 (pv 0)) (da_cons (de_var 1 (pv 1)) da_nil))))
 (dss_cons (ds_if (dt_lt (de_var 3 (pv 3)) de_int)
 (dss_one (ds_setH (i := 3) sc__law_draw.nd rfl (by first | exact .inl rfl | exact .inr rfl) (de_neg (de_var 3 (pv 3)))))
 dss_nil)
 (dss_cons (ds_ownH (i := 4) sc__law_draw.nd rfl (by first | exact .inl rfl | exact .inr rfl) (dl_lst da_nil))
 (dss_cons (ds_if (dt_ge (de_var 3 (pv 3)) (de_pow de_int de_int))
 (dss_cons (ds_setH (i := 3) sc__law_draw.nd rfl (by first | exact .inl rfl | exact .inr rfl) (de_sub (de_var 3 (pv 3)) (de_pow de_int de_int)))
 (dss_cons (ds_for PassesOwn.never rfl (di_any (de_var 2 (pv 2))) (dg_name (i := 7) (pg_name (i := 7) sc__law_draw.nd rfl (by first | exact .inl rfl | exact .inr rfl)))
 (dss_cons (ds_app (i := 4) (pv 4) (de_mod (de_var 3 (pv 3)) (de_var 7 (pv 7))))
 (dss_one (ds_setH (i := 3) sc__law_draw.nd rfl (by first | exact .inl rfl | exact .inr rfl) (de_fdiv (de_var 3 (pv 3)) (de_var 7 (pv 7)))))))
 (DSs.frz 4 (dss_one (ds_ret (de_var 4 (pv 4)))))))
 dss_nil)
 (dss_cons (ds_setH (i := 5) sc__law_draw.nd rfl (by first | exact .inl rfl | exact .inr rfl) (de_mod (de_add (de_add (de_var 3 (pv 3)) de_int) (de_mul de_int (de_var 1 (pv 1)))) de_int))
 (dss_cons (ds_for PassesOwn.never rfl (di_r1 rfl T.n_range (da_cons (de_len rfl T.n_len (de_var 2 (pv 2))) da_nil)) (dg_name (i := 6) (pg_name (i := 6) sc__law_draw.nd rfl (by first | exact .inl rfl | exact .inr rfl)))
 (dss_cons (ds_setH (i := 5) sc__law_draw.nd rfl (by first | exact .inl rfl | exact .inr rfl) (de_mod (de_add (de_add (de_mul (de_var 5 (pv 5)) de_int) de_int) (de_var 6 (pv 6))) de_int))
 (dss_cons (ds_setH (i := 5) sc__law_draw.nd rfl (by first | exact .inl rfl | exact .inr rfl) (de_mod (de_add (de_mul (de_var 5 (pv 5)) de_int) de_int) de_int))
 (dss_one (ds_app (i := 4) (pv 4) (de_mod (de_fdiv (de_var 5 (pv 5)) de_int) (de_at (de_var 2 (pv 2)) (de_var 6 (pv 6)) (fun _ _ => rfl))))))))
 (DSs.frz 4 (dss_one (ds_ret (de_var 4 (pv 4)))))))))))⟩
theorem ok_Workroom___init__ (T : Tx P K mg) : FnOk P w K mg base (L2.CX P w) 1 T.f_Workroom___init__ T.fd_Workroom___init__ ["self"] (spPX K 0 F_Workroom___init__) :=
  fn_okPX (k := 0) (j := 0) T.F_Workroom___init__ sc_Workroom___init__ (by decide) fun cdv A outer s H E hr => ⟨_,
  (DSs.x (dss_cons (ds_setFd T.nC_Workroom T.cls_Workroom T.na_Workroom__bought (pv 0) de_int)
 (dss_cons (ds_setFd T.nC_Workroom T.cls_Workroom T.na_Workroom__stock (pv 0) (DL.de (dl_lst da_nil)))
 (dss_cons (ds_setFd T.nC_Workroom T.cls_Workroom T.na_Workroom__orders (pv 0) (DL.de (dl_lst da_nil)))
 (dss_one (ds_setFl T.nC_Workroom T.cls_Workroom T.na_Workroom__deeds (pv 0) (dl_lst da_nil)))))))⟩
theorem ok_Workroom_orders (T : Tx P K mg) : FnOk P w K mg base CX0 1 T.f_Workroom_orders T.fd_Workroom_orders ["self"] (spR K F_Workroom_orders) :=
  fn_okR (k := 0) T.F_Workroom_orders sc_Workroom_orders (by decide) fun cdv A outer s H E hr => ⟨_,
  (dss_one (ds_ret (DL.de (dl_lc (own := [("number", 1), ("order", 2)]) rfl sc_Workroom_orders.nd (di_enumK (K := K) rfl rfl T.n_enumerate (de_fld T.nC_Workroom T.cls_Workroom T.na_Workroom__orders (pv 0))) (blkOk_by (N := N_Workroom_orders) (sc := defScope s_Workroom_orders) (by decide +kernel))
 (fun _ _ _ _ _ => (dg_tup (K := K) (n := 2) rfl rfl (dgs_cons (dg_name (i := 1) (pg_name (i := 1) sc_Workroom_orders.nd rfl (by first | exact .inl rfl | exact .inr rfl))) (dgs_cons (dg_name (i := 2) (pg_name (i := 2) sc_Workroom_orders.nd rfl (by first | exact .inl rfl | exact .inr rfl))) dgs_nil)))) (fun _ _ _ _ _ => (dts_one (dt_neK (K := K) rfl hr (de_atK (K := K) rfl (de_var 2 (pv 2)) de_int (fun _ _ => rfl)) (de_glob rfl T.g_CANCELED (T.r_CANCELED) (T.d_CANCELED)))))
 (fun _ _ _ _ _ => (de_tup (da_cons (de_var 1 (pv 1)) (da_cons (de_eqK (K := K) rfl hr (de_atK (K := K) rfl (de_var 2 (pv 2)) de_int (fun _ _ => rfl)) (de_glob rfl T.g_STARTED (T.r_STARTED) (T.d_STARTED))) da_nil))))))))⟩
theorem ok_total_area (T : Tx P K mg) : FnOk P w K mg base CX0 1 T.f_total_area T.fd_total_area ["areas"] (spD K F_total_area) :=
  fn_ok (k := 0) T.F_total_area sc_total_area (by decide) fun cdv A outer s H E hr => ⟨_,
  (dss_one (ds_ret (de_sum rfl rfl T.n_sum (DL.de (dl_lc (own := [("_", 1), ("area", 2)]) rfl sc_total_area.nd (di_any (de_var 0 (pv 0))) (blkOk_by (N := N_total_area) (sc := defScope s_total_area) (by decide +kernel))
 (fun _ _ _ _ _ => (dg_tup (K := K) (n := 2) rfl rfl (dgs_cons (dg_name (i := 1) (pg_name (i := 1) sc_total_area.nd rfl (by first | exact .inl rfl | exact .inr rfl))) (dgs_cons (dg_name (i := 2) (pg_name (i := 2) sc_total_area.nd rfl (by first | exact .inl rfl | exact .inr rfl))) dgs_nil)))) (fun _ _ _ _ _ => dts_nil)
 (fun _ _ _ _ _ => (de_var 2 (pv 2))))))))⟩
theorem ok_Workroom_totals (T : Tx P K mg) : FnOk P w K mg base CX0 2 T.f_Workroom_totals T.fd_Workroom_totals ["self"] (spR K F_Workroom_totals) :=
  fn_okR (k := 1) T.F_Workroom_totals sc_Workroom_totals (by decide) fun cdv A outer s H E hr => ⟨_,
  (dss_cons (ds_setLcD (i := 1) (own := [("order", 2)]) rfl sc_Workroom_totals.nd (di_any (de_fld T.nC_Workroom T.cls_Workroom T.na_Workroom__orders (pv 0))) (blkOk_by (N := N_Workroom_totals) (sc := defScope s_Workroom_totals) (by decide +kernel))
 (fun _ _ _ _ _ => (dg_name (i := 2) (pg_name (i := 2) sc_Workroom_totals.nd rfl (by first | exact .inl rfl | exact .inr rfl)))) (fun _ _ _ _ _ => (dts_one (dt_neK (K := K) rfl hr (de_atK (K := K) rfl (de_var 2 (pv 2)) de_int (fun _ _ => rfl)) (de_glob rfl T.g_CANCELED (T.r_CANCELED) (T.d_CANCELED)))))
 (fun _ _ _ _ _ => (de_callK (K := K) rfl (ok_total_area T) (hr.mono (by decide)) rfl T.g_total_area T.F_total_area.kp T.b_total_area (da_cons (de_atK (K := K) rfl (de_var 2 (pv 2)) de_int (fun _ _ => rfl)) da_nil))) rfl rfl rfl)
 (dss_one (ds_ret (de_tup (da_cons (de_fld T.nC_Workroom T.cls_Workroom T.na_Workroom__bought (pv 0)) (da_cons (de_call (ok_total_area T) (hr.mono (by decide)) rfl T.g_total_area T.F_total_area.kp T.b_total_area (da_cons (de_fld T.nC_Workroom T.cls_Workroom T.na_Workroom__stock (pv 0)) da_nil)) (da_cons (de_sum rfl rfl T.n_sum (de_var 1 (pv 1))) da_nil)))))))⟩
theorem ok_Workroom__keep (T : Tx P K mg) : FnOk P w K mg base (L2.CX P w) 1 T.f_Workroom__keep T.fd_Workroom__keep ["self", "deed"] (spPX K 0 F_Workroom__keep) :=
  fn_okPX (k := 0) (j := 0) T.F_Workroom__keep sc_Workroom__keep (by decide) fun cdv A outer s H E hr => ⟨_,
  (DSs.x (dss_one (ds_appF T.nC_Workroom T.cls_Workroom T.na_Workroom__deeds (pv 0) (de_tup (da_cons (de_var 1 (pv 1)) (da_cons (de_fld T.nC_Workroom T.cls_Workroom T.na_Workroom__bought (pv 0)) (da_cons (de_fld T.nC_Workroom T.cls_Workroom T.na_Workroom__stock (pv 0)) (da_cons (de_fld T.nC_Workroom T.cls_Workroom T.na_Workroom__orders (pv 0)) da_nil))))))))⟩
theorem ok_Workroom___contains__ (T : Tx P K mg) : FnOk P w K mg base CX0 1 T.f_Workroom___contains__ T.fd_Workroom___contains__ ["self", "order"] (spR K F_Workroom___contains__) :=
  fn_okR (k := 0) T.F_Workroom___contains__ sc_Workroom___contains__ (by decide) fun cdv A outer s H E hr => ⟨_,
  (dss_cons (ds_if (DW.dt (dw_or (dt_not (dt_val (de_isO (T := "int") rfl T.n_isinstance (pe_bltn rfl T.n_int (by decide +kernel) rfl) (de_var 1 (pv 1))))) (dw_one' (dt_val (de_isB rfl T.n_isinstance (pe_bltn rfl T.n_bool (by decide +kernel) rfl) (de_var 1 (pv 1)))))))
 (dss_one (ds_ret de_bl))
 dss_nil)
 (dss_one (ds_ret (de_and (de_chainR op_le op_le od_le od_le de_int (de_var 1 (pv 1)) (de_len rfl T.n_len (de_fld T.nC_Workroom T.cls_Workroom T.na_Workroom__orders (pv 0)))) (de_one (de_ne hr (de_at (de_at (de_fld T.nC_Workroom T.cls_Workroom T.na_Workroom__orders (pv 0)) (de_sub (de_var 1 (pv 1)) de_int) (fun _ _ => rfl)) de_int (fun _ _ => rfl)) (de_glob rfl T.g_CANCELED (T.r_CANCELED) (T.d_CANCELED))))))))⟩
theorem ok_Workroom__check_waiting (T : Tx P K mg) : FnOk P w K mg base (L2.CX P w) 3 T.f_Workroom__check_waiting T.fd_Workroom__check_waiting ["self", "order"] (spRX K F_Workroom__check_waiting) :=
  fn_okRX (k := 2) T.F_Workroom__check_waiting sc_Workroom__check_waiting (by decide) fun cdv A outer s H E hr => ⟨_,
  (dsxs_cons (dsx_if (dt_notInO T.nC_Workroom T.sp_Workroom___contains__ (ok_Workroom___contains__ T) (hr.mono (by decide)) T.b_Workroom___contains__ (de_var 1 (pv 1)) (pv 0))
 (dsxs_one (dsx_raise rfl (takes_of rfl rfl rfl rfl) (hr.mono (by decide)) (T.E_WorkroomError _ _) rfl (da_cons de_str da_nil)))
 (DSs.x dss_nil))
 (dsxs_one (dsx_if (dt_eq hr (de_at (de_at (de_fld T.nC_Workroom T.cls_Workroom T.na_Workroom__orders (pv 0)) (de_sub (de_var 1 (pv 1)) de_int) (fun _ _ => rfl)) de_int (fun _ _ => rfl)) (de_glob rfl T.g_STARTED (T.r_STARTED) (T.d_STARTED)))
 (dsxs_one (dsx_raise rfl (takes_of rfl rfl rfl rfl) (hr.mono (by decide)) (T.E_WorkroomError _ _) rfl (da_cons de_str da_nil)))
 (DSs.x dss_nil))))⟩
theorem ok_added_areas (T : Tx P K mg) : FnR P w K mg base CX0 1 T.f_added_areas (spS K F_added_areas) :=
  fn_okS (k := 0) T.F_added_areas sc_added_areas (by decide) T.bs_added_areas fun cdv A outer s H E hr => ⟨_,
  (dss_cons (ds_owd (i := 1) (ps_set (i := 1) sc_added_areas.nd rfl (by first | exact .inl rfl | exact .inr rfl) pe_dnewK))
 (dss_cons (ds_for PassesOwn.never rfl (di_any (de_var 0 (pv 0))) (dg_name (i := 2) (pg_name (i := 2) sc_added_areas.nd rfl (by first | exact .inl rfl | exact .inr rfl)))
 (dss_one (ds_for PassesOwn.never rfl (di_any (de_var 2 (pv 2))) (dg_tup (K := K) (n := 2) rfl rfl (dgs_cons (dg_name (i := 3) (pg_name (i := 3) sc_added_areas.nd rfl (by first | exact .inl rfl | exact .inr rfl))) (dgs_cons (dg_name (i := 4) (pg_name (i := 4) sc_added_areas.nd rfl (by first | exact .inl rfl | exact .inr rfl))) dgs_nil)))
 (dss_one (ds_put (i := 1) hr (pv 1) (de_var 3 (pv 3)) (DE.scal (de_add (de_dget2 hr (de_var 1 (pv 1)) (de_var 3 (pv 3)) de_int ⟨rfl, rfl, rfl, rfl⟩) (de_var 4 (pv 4)))))))))
 (DSs.frz 1 (dss_one (ds_ret (DL.de (dl_lc (own := [("fabric", 3)]) rfl sc_added_areas.nd (di_any (DL.de (dl_sortD rfl rfl T.n_sorted (de_var 1 (pv 1))))) (blkOk_by (N := N_added_areas) (sc := defScope s_added_areas) (by decide +kernel))
 (fun _ _ _ _ _ => (dg_name (i := 3) (pg_name (i := 3) sc_added_areas.nd rfl (by first | exact .inl rfl | exact .inr rfl)))) (fun _ _ _ _ _ => (dts_one (dt_neK (K := K) rfl hr (de_dget hr (de_var 1 (pv 1)) (de_var 3 (pv 3))) de_int)))
 (fun _ _ _ _ _ => (de_tup (da_cons (de_var 3 (pv 3)) (da_cons (de_dget hr (de_var 1 (pv 1)) (de_var 3 (pv 3))) da_nil)))))))))))⟩
theorem ok_Workroom_buy (T : Tx P K mg) : FnOk P w K mg base (L2.CX P w) 3 T.f_Workroom_buy T.fd_Workroom_buy ["self", "fabric", "area"] (spPX K 0 F_Workroom_buy) :=
  fn_okPX (k := 2) (j := 0) T.F_Workroom_buy sc_Workroom_buy (by decide) fun cdv A outer s H E hr => ⟨_,
  (dsxs_cons (DS.x (ds_setH (i := 3) sc_Workroom_buy.nd rfl (by first | exact .inl rfl | exact .inr rfl) (de_callR (ok_added_areas T) (hr.mono (by decide)) rfl T.g_added_areas T.F_added_areas.kp (da_cons (de_fld T.nC_Workroom T.cls_Workroom T.na_Workroom__stock (pv 0)) (da_cons (DL.de (dl_lst (da_cons (de_tup (da_cons (de_var 1 (pv 1)) (da_cons (de_var 2 (pv 2)) da_nil))) da_nil))) da_nil)))))
 (dsxs_cons (DS.x (ds_setH (i := 4) sc_Workroom_buy.nd rfl (by first | exact .inl rfl | exact .inr rfl) (de_dget2 hr (de_dictP (K := K) rfl rfl rfl T.n_dict (de_var 3 (pv 3))) (de_var 1 (pv 1)) de_int ⟨rfl, rfl, rfl, rfl⟩)))
 (dsxs_cons (dsx_if (dt_gt (de_var 4 (pv 4)) (de_glob rfl T.g_STOCK (T.r_STOCK) (T.d_STOCK)))
 (dsxs_one (dsx_raiseK rfl (takes_of rfl rfl rfl rfl) (hr.mono (by decide)) (T.E_WorkroomError _ _) rfl (da_cons de_str da_nil)))
 (DSs.x dss_nil))
 (DSs.x (dss_cons (ds_dropMA T.nC_Workroom T.cls_Workroom T.m_Workroom__keep (ok_Workroom__keep T) (hr.mono (by decide)) T.b_Workroom__keep (pv 0) (da_cons de_str da_nil))
 (dss_cons (ds_augF T.nC_Workroom T.cls_Workroom T.na_Workroom__bought (pv 0) (de_var 2 (pv 2)))
 (dss_cons (ds_setFd T.nC_Workroom T.cls_Workroom T.na_Workroom__stock (pv 0) (de_var 3 (pv 3)))
 (dss_one (ds_retK (de_var 4 (pv 4)))))))))))⟩
theorem ok_sides (T : Tx P K mg) : FnOk P w K mg base CX0 1 T.f_sides T.fd_sides ["patches"] (spD K F_sides) :=
  fn_ok (k := 0) T.F_sides sc_sides (by decide) fun cdv A outer s H E hr => ⟨_,
  (dss_cons (ds_setLcD (i := 1) (own := [("patch", 3)]) rfl sc_sides.nd (di_any (de_var 0 (pv 0))) (blkOk_by (N := N_sides) (sc := defScope s_sides) (by decide +kernel))
 (fun _ _ _ _ _ => (dg_name (i := 3) (pg_name (i := 3) sc_sides.nd rfl (by first | exact .inl rfl | exact .inr rfl)))) (fun _ _ _ _ _ => dts_nil)
 (fun _ _ _ _ _ => (de_addK (K := K) rfl (de_atK (K := K) rfl (de_var 3 (pv 3)) de_int (fun _ _ => rfl)) (de_atK (K := K) rfl (de_var 3 (pv 3)) de_int (fun _ _ => rfl)))) rfl rfl rfl)
 (dss_cons (ds_setLcD (i := 2) (own := [("patch", 3)]) rfl sc_sides.nd (di_any (de_var 0 (pv 0))) (blkOk_by (N := N_sides) (sc := defScope s_sides) (by decide +kernel))
 (fun _ _ _ _ _ => (dg_name (i := 3) (pg_name (i := 3) sc_sides.nd rfl (by first | exact .inl rfl | exact .inr rfl)))) (fun _ _ _ _ _ => dts_nil)
 (fun _ _ _ _ _ => (de_addK (K := K) rfl (de_atK (K := K) rfl (de_var 3 (pv 3)) de_int (fun _ _ => rfl)) (de_atK (K := K) rfl (de_var 3 (pv 3)) de_int (fun _ _ => rfl)))) rfl rfl rfl)
 (dss_one (ds_ret (de_tup (da_cons (de_maxDef (K := K) rfl rfl hr rfl T.n_max (de_var 1 (pv 1))) (da_cons (de_maxDef (K := K) rfl rfl hr rfl T.n_max (de_var 2 (pv 2))) da_nil)))))))⟩
theorem ok_size_of (T : Tx P K mg) : FnOk P w K mg base CX0 1 T.f_size_of T.fd_size_of ["pattern"] (spD K F_size_of) :=
  fn_ok (k := 0) T.F_size_of sc_size_of (by decide) fun cdv A outer s H E hr => ⟨_,
  (dss_one (ds_ret (de_tup (da_cons (de_len rfl T.n_len (de_var 0 (pv 0))) (da_cons (de_maxDef (K := K) rfl rfl hr rfl T.n_max (DL.de (dl_lc (own := [("row", 1)]) rfl sc_size_of.nd (di_any (de_var 0 (pv 0))) (blkOk_by (N := N_size_of) (sc := defScope s_size_of) (by decide +kernel))
 (fun _ _ _ _ _ => (dg_name (i := 1) (pg_name (i := 1) sc_size_of.nd rfl (by first | exact .inl rfl | exact .inr rfl)))) (fun _ _ _ _ _ => dts_nil)
 (fun _ _ _ _ _ => (de_lenK (K := K) rfl rfl T.n_len (de_var 1 (pv 1))))))) da_nil)))))⟩
theorem ok_cells_of (T : Tx P K mg) : FnOk P w K mg base CX0 1 T.f_cells_of T.fd_cells_of ["patch"] (spD K F_cells_of) :=
  fn_ok (k := 0) T.F_cells_of sc_cells_of (by decide) fun cdv A outer s H E hr => ⟨_,
  (dss_cons (ds_asgG (de_var 0 (pv 0)) (dg_tup (K := K) (n := 4) rfl rfl (dgs_cons (dg_name (i := 1) (pg_name (i := 1) sc_cells_of.nd rfl (by first | exact .inl rfl | exact .inr rfl))) (dgs_cons (dg_name (i := 2) (pg_name (i := 2) sc_cells_of.nd rfl (by first | exact .inl rfl | exact .inr rfl))) (dgs_cons (dg_name (i := 3) (pg_name (i := 3) sc_cells_of.nd rfl (by first | exact .inl rfl | exact .inr rfl))) (dgs_cons (dg_name (i := 4) (pg_name (i := 4) sc_cells_of.nd rfl (by first | exact .inl rfl | exact .inr rfl))) dgs_nil))))))
 (dss_one (ds_ret (DL.de (dl_lc2 (own := [("row", 5), ("column", 6)]) (vs1 := [6]) rfl sc_cells_of.nd (di_r2 rfl T.n_range (da_cons (de_var 1 (pv 1)) (da_cons (de_add (de_var 1 (pv 1)) (de_var 3 (pv 3))) da_nil))) (blkOk_by (N := N_cells_of) (sc := defScope s_cells_of) (by decide +kernel))
 (fun _ _ _ _ _ => (dg_name (i := 5) (pg_name (i := 5) sc_cells_of.nd rfl (by first | exact .inl rfl | exact .inr rfl)))) (fun _ _ _ _ _ => dts_nil) (fun _ _ _ _ _ => (di_r2 rfl T.n_range (da_cons (de_var 2 (pv 2)) (da_cons (de_addK (K := K) rfl (de_var 2 (pv 2)) (de_var 4 (pv 4))) da_nil)))) (fun _ _ _ _ _ => (dg_name (i := 6) (pg_name (i := 6) sc_cells_of.nd rfl (by first | exact .inl rfl | exact .inr rfl)))) (fun _ _ _ _ _ => dts_nil)
 (fun _ _ _ _ _ => (de_tup (da_cons (de_var 5 (pv 5)) (da_cons (de_var 6 (pv 6)) da_nil)))))))))⟩
theorem ok_is_fabric (T : Tx P K mg) : FnOk P w K mg base CX0 1 T.f_is_fabric T.fd_is_fabric ["word"] (spD K F_is_fabric) :=
  fn_ok (k := 0) T.F_is_fabric sc_is_fabric (by decide) fun cdv A outer s H E hr => ⟨_,
  (dss_one (ds_ret (de_and (de_eq hr (de_len rfl T.n_len (de_var 0 (pv 0))) de_int) (de_one (de_inS (de_var 0 (pv 0)) (de_glob rfl T.g_LETTERS (T.r_LETTERS) (T.d_LETTERS)) rfl)))))⟩
theorem ok_can_be_cut (T : Tx P K mg) : FnOk P w K mg base CX0 2 T.f_can_be_cut T.fd_can_be_cut ["pattern", "patch"] (spD K F_can_be_cut) :=
  fn_ok (k := 1) T.F_can_be_cut sc_can_be_cut (by decide) fun cdv A outer s H E hr => ⟨_,
  (dss_cons (ds_setH (i := 2) sc_can_be_cut.nd rfl (by first | exact .inl rfl | exact .inr rfl) (DL.de (dl_lc (own := [("row", 3), ("column", 4)]) rfl sc_can_be_cut.nd (di_any (de_call (ok_cells_of T) (hr.mono (by decide)) rfl T.g_cells_of T.F_cells_of.kp T.b_cells_of (da_cons (de_var 1 (pv 1)) da_nil))) (blkOk_by (N := N_can_be_cut) (sc := defScope s_can_be_cut) (by decide +kernel))
 (fun _ _ _ _ _ => (dg_tup (K := K) (n := 2) rfl rfl (dgs_cons (dg_name (i := 3) (pg_name (i := 3) sc_can_be_cut.nd rfl (by first | exact .inl rfl | exact .inr rfl))) (dgs_cons (dg_name (i := 4) (pg_name (i := 4) sc_can_be_cut.nd rfl (by first | exact .inl rfl | exact .inr rfl))) dgs_nil)))) (fun _ _ _ _ _ => dts_nil)
 (fun _ _ _ _ _ => (de_atK (K := K) rfl (de_atK (K := K) rfl (de_var 0 (pv 0)) (de_var 3 (pv 3)) (fun _ _ => rfl)) (de_var 4 (pv 4)) (fun _ _ => rfl))))))
 (dss_one (ds_ret (de_or (de_eq hr (de_len rfl T.n_len (de_var 2 (pv 2))) de_int) (de_one (de_and (de_call (ok_is_fabric T) (hr.mono (by decide)) rfl T.g_is_fabric T.F_is_fabric.kp T.b_is_fabric (da_cons (de_at (de_var 2 (pv 2)) de_int (fun _ _ => rfl)) da_nil)) (de_one (de_all rfl rfl T.n_all (DL.de (dl_lc (own := [("cell", 5)]) rfl sc_can_be_cut.nd (di_any (de_var 2 (pv 2))) (blkOk_by (N := N_can_be_cut) (sc := defScope s_can_be_cut) (by decide +kernel))
 (fun _ _ _ _ _ => (dg_name (i := 5) (pg_name (i := 5) sc_can_be_cut.nd rfl (by first | exact .inl rfl | exact .inr rfl)))) (fun _ _ _ _ _ => dts_nil)
 (fun _ _ _ _ _ => (de_eqK (K := K) rfl hr (de_var 5 (pv 5)) (de_atK (K := K) rfl (de_var 2 (pv 2)) de_int (fun _ _ => rfl))))))))))))))⟩
theorem ok_fits (T : Tx P K mg) : FnOk P w K mg base CX0 3 T.f_fits T.fd_fits ["pattern", "patches"] (spD K F_fits) :=
  fn_ok (k := 2) T.F_fits sc_fits (by decide) fun cdv A outer s H E hr => ⟨_,
  (dss_one (ds_ret (de_and (de_eq hr (de_call (ok_sides T) (hr.mono (by decide)) rfl T.g_sides T.F_sides.kp T.b_sides (da_cons (de_var 1 (pv 1)) da_nil)) (de_call (ok_size_of T) (hr.mono (by decide)) rfl T.g_size_of T.F_size_of.kp T.b_size_of (da_cons (de_var 0 (pv 0)) da_nil))) (de_one (de_all rfl rfl T.n_all (DL.de (dl_lc (own := [("patch", 2)]) rfl sc_fits.nd (di_any (de_var 1 (pv 1))) (blkOk_by (N := N_fits) (sc := defScope s_fits) (by decide +kernel))
 (fun _ _ _ _ _ => (dg_name (i := 2) (pg_name (i := 2) sc_fits.nd rfl (by first | exact .inl rfl | exact .inr rfl)))) (fun _ _ _ _ _ => dts_nil)
 (fun _ _ _ _ _ => (de_callK (K := K) rfl (ok_can_be_cut T) (hr.mono (by decide)) rfl T.g_can_be_cut T.F_can_be_cut.kp T.b_can_be_cut (da_cons (de_var 0 (pv 0)) (da_cons (de_var 2 (pv 2)) da_nil)))))))))))⟩
theorem ok_check_fit (T : Tx P K mg) : FnOk P w K mg base CX0 4 T.f_check_fit T.fd_check_fit ["pattern", "patches"] (spD K F_check_fit) :=
  fn_ok (k := 3) T.F_check_fit sc_check_fit (by decide) fun cdv A outer s H E hr => ⟨_,
  (dss_one (ds_if (dt_not (dt_val (de_call (ok_fits T) (hr.mono (by decide)) rfl T.g_fits T.F_fits.kp T.b_fits (da_cons (de_var 0 (pv 0)) (da_cons (de_var 1 (pv 1)) da_nil)))))
 (dss_one ds_never)
 dss_nil))⟩
theorem ok_cell_of (T : Tx P K mg) : FnOk P w K mg base CX0 1 T.f_cell_of T.fd_cell_of ["pattern", "patch"] (spD K F_cell_of) :=
  fn_ok (k := 0) T.F_cell_of sc_cell_of (by decide) fun cdv A outer s H E hr => ⟨_,
  (dss_one (ds_ret (de_at (de_at (de_var 0 (pv 0)) (de_at (de_var 1 (pv 1)) de_int (fun _ _ => rfl)) (fun _ _ => rfl)) (de_at (de_var 1 (pv 1)) de_int (fun _ _ => rfl)) (fun _ _ => rfl))))⟩
theorem ok_triangle_side (T : Tx P K mg) : FnOk P w K mg base CX0 1 T.f_triangle_side T.fd_triangle_side ["cell_size", "allowance"] (spD K F_triangle_side) :=
  fn_ok (k := 0) T.F_triangle_side sc_triangle_side (by decide) fun cdv A outer s H E hr => ⟨_,
  (dss_one (ds_ret (de_add (de_var 0 (pv 0)) (de_mul de_int (de_var 1 (pv 1))))))⟩
theorem ok_plain_piece (T : Tx P K mg) : FnOk P w K mg base CX0 1 T.f_plain_piece T.fd_plain_piece ["patch", "cell_size", "allowance"] (spD K F_plain_piece) :=
  fn_ok (k := 0) T.F_plain_piece sc_plain_piece (by decide) fun cdv A outer s H E hr => ⟨_,
  (dss_cons (ds_asgG (de_var 0 (pv 0)) (dg_tup (K := K) (n := 4) rfl rfl (dgs_cons (dg_name (i := 3) (pg_name (i := 3) sc_plain_piece.nd rfl (by first | exact .inl rfl | exact .inr rfl))) (dgs_cons (dg_name (i := 3) (pg_name (i := 3) sc_plain_piece.nd rfl (by first | exact .inl rfl | exact .inr rfl))) (dgs_cons (dg_name (i := 4) (pg_name (i := 4) sc_plain_piece.nd rfl (by first | exact .inl rfl | exact .inr rfl))) (dgs_cons (dg_name (i := 5) (pg_name (i := 5) sc_plain_piece.nd rfl (by first | exact .inl rfl | exact .inr rfl))) dgs_nil))))))
 (dss_one (ds_ret (de_tup (da_cons (de_add (de_mul (de_var 5 (pv 5)) (de_var 1 (pv 1))) (de_mul de_int (de_var 2 (pv 2)))) (da_cons (de_add (de_mul (de_var 4 (pv 4)) (de_var 1 (pv 1))) (de_mul de_int (de_var 2 (pv 2)))) da_nil))))))⟩
theorem ok_halves (T : Tx P K mg) : FnOk P w K mg base CX0 1 T.f_halves T.fd_halves ["cell"] (spD K F_halves) :=
  fn_ok (k := 0) T.F_halves sc_halves (by decide) fun cdv A outer s H E hr => ⟨_,
  (dss_one (ds_ret (de_tup (da_cons (de_at (de_var 0 (pv 0)) de_int (fun _ _ => rfl)) (da_cons (de_at (de_var 0 (pv 0)) (de_neg de_int) (fun _ _ => rfl)) da_nil)))))⟩
theorem ok_areas_of_patch (T : Tx P K mg) : FnOk P w K mg base CX0 2 T.f_areas_of_patch T.fd_areas_of_patch ["pattern", "patch", "cell_size", "allowance"] (spD K F_areas_of_patch) :=
  fn_ok (k := 1) T.F_areas_of_patch sc_areas_of_patch (by decide) fun cdv A outer s H E hr => ⟨_,
  (dss_cons (ds_setH (i := 4) sc_areas_of_patch.nd rfl (by first | exact .inl rfl | exact .inr rfl) (de_call (ok_cell_of T) (hr.mono (by decide)) rfl T.g_cell_of T.F_cell_of.kp T.b_cell_of (da_cons (de_var 0 (pv 0)) (da_cons (de_var 1 (pv 1)) da_nil))))
 (dss_cons (ds_if (dt_val (de_call (ok_is_fabric T) (hr.mono (by decide)) rfl T.g_is_fabric T.F_is_fabric.kp T.b_is_fabric (da_cons (de_var 4 (pv 4)) da_nil)))
 (dss_cons (ds_asgG (de_call (ok_plain_piece T) (hr.mono (by decide)) rfl T.g_plain_piece T.F_plain_piece.kp T.b_plain_piece (da_cons (de_var 1 (pv 1)) (da_cons (de_var 2 (pv 2)) (da_cons (de_var 3 (pv 3)) da_nil)))) (dg_tup (K := K) (n := 2) rfl rfl (dgs_cons (dg_name (i := 6) (pg_name (i := 6) sc_areas_of_patch.nd rfl (by first | exact .inl rfl | exact .inr rfl))) (dgs_cons (dg_name (i := 7) (pg_name (i := 7) sc_areas_of_patch.nd rfl (by first | exact .inl rfl | exact .inr rfl))) dgs_nil))))
 (dss_one (ds_ret (DL.de (dl_lst (da_cons (de_tup (da_cons (de_var 4 (pv 4)) (da_cons (de_mul (de_mul de_int (de_var 6 (pv 6))) (de_var 7 (pv 7))) da_nil))) da_nil))))))
 dss_nil)
 (dss_cons (ds_setH (i := 5) sc_areas_of_patch.nd rfl (by first | exact .inl rfl | exact .inr rfl) (de_call (ok_triangle_side T) (hr.mono (by decide)) rfl T.g_triangle_side T.F_triangle_side.kp T.b_triangle_side (da_cons (de_var 2 (pv 2)) (da_cons (de_var 3 (pv 3)) da_nil))))
 (dss_one (ds_ret (DL.de (dl_lc (own := [("fabric", 8)]) rfl sc_areas_of_patch.nd (di_any (de_call (ok_halves T) (hr.mono (by decide)) rfl T.g_halves T.F_halves.kp T.b_halves (da_cons (de_var 4 (pv 4)) da_nil))) (blkOk_by (N := N_areas_of_patch) (sc := defScope s_areas_of_patch) (by decide +kernel))
 (fun _ _ _ _ _ => (dg_name (i := 8) (pg_name (i := 8) sc_areas_of_patch.nd rfl (by first | exact .inl rfl | exact .inr rfl)))) (fun _ _ _ _ _ => dts_nil)
 (fun _ _ _ _ _ => (de_tup (da_cons (de_var 8 (pv 8)) (da_cons (de_mul (de_var 5 (pv 5)) (de_var 5 (pv 5))) da_nil)))))))))))⟩
theorem ok_fabric_needed (T : Tx P K mg) : FnOk P w K mg base CX0 5 T.f_fabric_needed T.fd_fabric_needed ["pattern", "patches", "cell_size", "allowance"] (spD K F_fabric_needed) :=
  fn_ok (k := 4) T.F_fabric_needed sc_fabric_needed (by decide) fun cdv A outer s H E hr => ⟨_,
  (dss_cons (ds_drop (de_call (ok_check_fit T) (hr.mono (by decide)) rfl T.g_check_fit T.F_check_fit.kp T.b_check_fit (da_cons (de_var 0 (pv 0)) (da_cons (de_var 1 (pv 1)) da_nil))))
 (dss_cons (ds_setLcD (i := 4) (own := [("patch", 5)]) rfl sc_fabric_needed.nd (di_any (de_var 1 (pv 1))) (blkOk_by (N := N_fabric_needed) (sc := defScope s_fabric_needed) (by decide +kernel))
 (fun _ _ _ _ _ => (dg_name (i := 5) (pg_name (i := 5) sc_fabric_needed.nd rfl (by first | exact .inl rfl | exact .inr rfl)))) (fun _ _ _ _ _ => dts_nil)
 (fun _ _ _ _ _ => (de_callK (K := K) rfl (ok_areas_of_patch T) (hr.mono (by decide)) rfl T.g_areas_of_patch T.F_areas_of_patch.kp T.b_areas_of_patch (da_cons (de_var 0 (pv 0)) (da_cons (de_var 5 (pv 5)) (da_cons (de_var 2 (pv 2)) (da_cons (de_var 3 (pv 3)) da_nil)))))) rfl rfl rfl)
 (dss_one (ds_ret (de_callS (ok_added_areas T) (hr.mono (by decide)) rfl T.g_added_areas T.F_added_areas.kp (de_var 4 (pv 4)))))))⟩
theorem ok_less (T : Tx P K mg) : FnOk P w K mg base CX0 1 T.f_less T.fd_less ["areas"] (spD K F_less) :=
  fn_ok (k := 0) T.F_less sc_less (by decide) fun cdv A outer s H E hr => ⟨_,
  (dss_one (ds_ret (DL.de (dl_lc (own := [("fabric", 1), ("area", 2)]) rfl sc_less.nd (di_any (de_var 0 (pv 0))) (blkOk_by (N := N_less) (sc := defScope s_less) (by decide +kernel))
 (fun _ _ _ _ _ => (dg_tup (K := K) (n := 2) rfl rfl (dgs_cons (dg_name (i := 1) (pg_name (i := 1) sc_less.nd rfl (by first | exact .inl rfl | exact .inr rfl))) (dgs_cons (dg_name (i := 2) (pg_name (i := 2) sc_less.nd rfl (by first | exact .inl rfl | exact .inr rfl))) dgs_nil)))) (fun _ _ _ _ _ => dts_nil)
 (fun _ _ _ _ _ => (de_tup (da_cons (de_var 1 (pv 1)) (da_cons (de_neg (de_var 2 (pv 2))) da_nil))))))))⟩
theorem ok_Workroom_take (T : Tx P K mg) : FnOk P w K mg base (L2.CX P w) 6 T.f_Workroom_take T.fd_Workroom_take ["self", "pattern", "patches", "cell_size", "allowance"] (spPX K 0 F_Workroom_take) :=
  fn_okPX (k := 5) (j := 0) T.F_Workroom_take sc_Workroom_take (by decide) fun cdv A outer s H E hr => ⟨_,
  (dsxs_cons (dsx_if (dt_not (dt_val (de_call (ok_fits T) (hr.mono (by decide)) rfl T.g_fits T.F_fits.kp T.b_fits (da_cons (de_var 1 (pv 1)) (da_cons (de_var 2 (pv 2)) da_nil)))))
 (dsxs_one (dsx_raiseK rfl (takes_of rfl rfl rfl rfl) (hr.mono (by decide)) (T.E_WorkroomError _ _) rfl (da_cons de_str da_nil)))
 (DSs.x dss_nil))
 (dsxs_cons (dsx_if (dt_ge (de_len rfl T.n_len (de_fld T.nC_Workroom T.cls_Workroom T.na_Workroom__orders (pv 0))) (de_glob rfl T.g_ORDERS (T.r_ORDERS) (T.d_ORDERS)))
 (dsxs_one (dsx_raiseK rfl (takes_of rfl rfl rfl rfl) (hr.mono (by decide)) (T.E_WorkroomError _ _) rfl (da_cons de_str da_nil)))
 (DSs.x dss_nil))
 (dsxs_cons (DS.x (ds_setH (i := 5) sc_Workroom_take.nd rfl (by first | exact .inl rfl | exact .inr rfl) (de_call (ok_fabric_needed T) (hr.mono (by decide)) rfl T.g_fabric_needed T.F_fabric_needed.kp T.b_fabric_needed (da_cons (de_var 1 (pv 1)) (da_cons (de_var 2 (pv 2)) (da_cons (de_var 3 (pv 3)) (da_cons (de_var 4 (pv 4)) da_nil)))))))
 (dsxs_cons (DS.x (ds_setH (i := 6) sc_Workroom_take.nd rfl (by first | exact .inl rfl | exact .inr rfl) (de_callR (ok_added_areas T) (hr.mono (by decide)) rfl T.g_added_areas T.F_added_areas.kp (da_cons (de_fld T.nC_Workroom T.cls_Workroom T.na_Workroom__stock (pv 0)) (da_cons (de_call (ok_less T) (hr.mono (by decide)) rfl T.g_less T.F_less.kp T.b_less (da_cons (de_var 5 (pv 5)) da_nil)) da_nil)))))
 (dsxs_cons (dsx_if (dt_val (de_any rfl rfl T.n_any (DL.de (dl_lc (own := [("_", 7), ("area", 8)]) rfl sc_Workroom_take.nd (di_any (de_var 6 (pv 6))) (blkOk_by (N := N_Workroom_take) (sc := defScope s_Workroom_take) (by decide +kernel))
 (fun _ _ _ _ _ => (dg_tup (K := K) (n := 2) rfl rfl (dgs_cons (dg_name (i := 7) (pg_name (i := 7) sc_Workroom_take.nd rfl (by first | exact .inl rfl | exact .inr rfl))) (dgs_cons (dg_name (i := 8) (pg_name (i := 8) sc_Workroom_take.nd rfl (by first | exact .inl rfl | exact .inr rfl))) dgs_nil)))) (fun _ _ _ _ _ => dts_nil)
 (fun _ _ _ _ _ => (de_lt (de_var 8 (pv 8)) de_int))))))
 (dsxs_one (dsx_raiseK rfl (takes_of rfl rfl rfl rfl) (hr.mono (by decide)) (T.E_WorkroomError _ _) rfl (da_cons de_str da_nil)))
 (DSs.x dss_nil))
 (DSs.x (dss_cons (ds_dropMA T.nC_Workroom T.cls_Workroom T.m_Workroom__keep (ok_Workroom__keep T) (hr.mono (by decide)) T.b_Workroom__keep (pv 0) (da_cons de_str da_nil))
 (dss_cons (ds_setFd T.nC_Workroom T.cls_Workroom T.na_Workroom__stock (pv 0) (de_var 6 (pv 6)))
 (dss_cons (ds_setFd T.nC_Workroom T.cls_Workroom T.na_Workroom__orders (pv 0) (de_addB (K := K) rfl (de_fld T.nC_Workroom T.cls_Workroom T.na_Workroom__orders (pv 0)) (DL.de (dl_lst (da_cons (de_tup (da_cons (de_var 1 (pv 1)) (da_cons (de_var 2 (pv 2)) (da_cons (de_var 5 (pv 5)) (da_cons (de_glob rfl T.g_WAITING (T.r_WAITING) (T.d_WAITING)) da_nil))))) da_nil)))))
 (dss_one (ds_retK (de_len rfl T.n_len (de_fld T.nC_Workroom T.cls_Workroom T.na_Workroom__orders (pv 0))))))))))))))⟩
theorem ok_with_state (T : Tx P K mg) : FnOk P w K mg base CX0 1 T.f_with_state T.fd_with_state ["orders", "number", "state"] (spD K F_with_state) :=
  fn_ok (k := 0) T.F_with_state sc_with_state (by decide) fun cdv A outer s H E hr => ⟨_,
  (dss_cons (ds_asgG (de_at (de_var 0 (pv 0)) (de_sub (de_var 1 (pv 1)) de_int) (fun _ _ => rfl)) (dg_tup (K := K) (n := 4) rfl rfl (dgs_cons (dg_name (i := 3) (pg_name (i := 3) sc_with_state.nd rfl (by first | exact .inl rfl | exact .inr rfl))) (dgs_cons (dg_name (i := 4) (pg_name (i := 4) sc_with_state.nd rfl (by first | exact .inl rfl | exact .inr rfl))) (dgs_cons (dg_name (i := 5) (pg_name (i := 5) sc_with_state.nd rfl (by first | exact .inl rfl | exact .inr rfl))) (dgs_cons (dg_name (i := 6) (pg_name (i := 6) sc_with_state.nd rfl (by first | exact .inl rfl | exact .inr rfl))) dgs_nil))))))
 (dss_one (ds_ret (de_addB (K := K) rfl (de_addB (K := K) rfl (de_cutA (K := K) rfl (de_var 0 (pv 0)) do_none (do_some (de_sub (de_var 1 (pv 1)) de_int))) (DL.de (dl_lst (da_cons (de_tup (da_cons (de_var 3 (pv 3)) (da_cons (de_var 4 (pv 4)) (da_cons (de_var 5 (pv 5)) (da_cons (de_var 2 (pv 2)) da_nil))))) da_nil)))) (de_cutA (K := K) rfl (de_var 0 (pv 0)) (do_some (de_var 1 (pv 1))) do_none)))))⟩
theorem ok_Workroom_cancel (T : Tx P K mg) : FnOk P w K mg base (L2.CX P w) 5 T.f_Workroom_cancel T.fd_Workroom_cancel ["self", "order"] (spPX K 0 F_Workroom_cancel) :=
  fn_okPX (k := 4) (j := 0) T.F_Workroom_cancel sc_Workroom_cancel (by decide) fun cdv A outer s H E hr => ⟨_,
  (dsxs_cons (dsx_dropK (dex_methR (takes_of rfl rfl rfl rfl) T.nC_Workroom T.cls_Workroom T.m_Workroom__check_waiting (ok_Workroom__check_waiting T) (hr.mono (by decide)) T.b_Workroom__check_waiting (pv 0) (da_cons (de_var 1 (pv 1)) da_nil)))
 (DSs.x (dss_cons (ds_setH (i := 2) sc_Workroom_cancel.nd rfl (by first | exact .inl rfl | exact .inr rfl) (de_at (de_at (de_fld T.nC_Workroom T.cls_Workroom T.na_Workroom__orders (pv 0)) (de_sub (de_var 1 (pv 1)) de_int) (fun _ _ => rfl)) de_int (fun _ _ => rfl)))
 (dss_cons (ds_dropMA T.nC_Workroom T.cls_Workroom T.m_Workroom__keep (ok_Workroom__keep T) (hr.mono (by decide)) T.b_Workroom__keep (pv 0) (da_cons de_str da_nil))
 (dss_cons (ds_setFd T.nC_Workroom T.cls_Workroom T.na_Workroom__stock (pv 0) (de_callR (ok_added_areas T) (hr.mono (by decide)) rfl T.g_added_areas T.F_added_areas.kp (da_cons (de_fld T.nC_Workroom T.cls_Workroom T.na_Workroom__stock (pv 0)) (da_cons (de_var 2 (pv 2)) da_nil))))
 (dss_cons (ds_setFd T.nC_Workroom T.cls_Workroom T.na_Workroom__orders (pv 0) (de_call (ok_with_state T) (hr.mono (by decide)) rfl T.g_with_state T.F_with_state.kp T.b_with_state (da_cons (de_fld T.nC_Workroom T.cls_Workroom T.na_Workroom__orders (pv 0)) (da_cons (de_var 1 (pv 1)) (da_cons (de_glob rfl T.g_CANCELED (T.r_CANCELED) (T.d_CANCELED)) da_nil)))))
 (dss_one (ds_retK (DL.de (dl_list rfl T.n_list (de_var 2 (pv 2))))))))))))⟩
theorem ok_rectangle_of (T : Tx P K mg) : FnOk P w K mg base CX0 1 T.f_rectangle_of T.fd_rectangle_of ["section"] (spD K F_rectangle_of) :=
  fn_ok (k := 0) T.F_rectangle_of sc_rectangle_of (by decide) fun cdv A outer s H E hr => ⟨_,
  (dss_one (ds_ret (de_at (de_var 0 (pv 0)) de_int (fun _ _ => rfl))))⟩
theorem ok_in_order (T : Tx P K mg) : FnOk P w K mg base CX0 4 T.f_in_order T.fd_in_order ["sections"] (spD K F_in_order) :=
  fn_ok (k := 3) T.F_in_order sc_in_order (by decide) fun cdv A outer s H E hr => ⟨_,
  (dss_one (ds_ret (DL.de (dl_srtK rfl rfl T.n_sorted (ok_rectangle_of T) (hr.mono (by decide)) rfl T.g_rectangle_of T.b_rectangle_of (de_var 0 (pv 0))))))⟩
theorem ok_first_sections (T : Tx P K mg) : FnOk P w K mg base CX0 5 T.f_first_sections T.fd_first_sections ["patches"] (spD K F_first_sections) :=
  fn_ok (k := 4) T.F_first_sections sc_first_sections (by decide) fun cdv A outer s H E hr => ⟨_,
  (dss_one (ds_ret (de_call (ok_in_order T) (hr.mono (by decide)) rfl T.g_in_order T.F_in_order.kp T.b_in_order (da_cons (DL.de (dl_lc (own := [("number", 1), ("patch", 2)]) rfl sc_first_sections.nd (di_enumA (K := K) rfl rfl T.n_enumerate (de_var 0 (pv 0))) (blkOk_by (N := N_first_sections) (sc := defScope s_first_sections) (by decide +kernel))
 (fun _ _ _ _ _ => (dg_tup (K := K) (n := 2) rfl rfl (dgs_cons (dg_name (i := 1) (pg_name (i := 1) sc_first_sections.nd rfl (by first | exact .inl rfl | exact .inr rfl))) (dgs_cons (dg_name (i := 2) (pg_name (i := 2) sc_first_sections.nd rfl (by first | exact .inl rfl | exact .inr rfl))) dgs_nil)))) (fun _ _ _ _ _ => dts_nil)
 (fun _ _ _ _ _ => (de_tup (da_cons (de_tup (da_cons (de_var 1 (pv 1)) da_nil)) (da_cons (de_var 2 (pv 2)) da_nil)))))) da_nil))))⟩
theorem ok_Assembly___init__ (T : Tx P K mg) : FnOk P w K mg base (L2.CX P w) 6 T.f_Assembly___init__ T.fd_Assembly___init__ ["self", "pattern", "patches"] (spPX K 0 F_Assembly___init__) :=
  fn_okPX (k := 5) (j := 0) T.F_Assembly___init__ sc_Assembly___init__ (by decide) fun cdv A outer s H E hr => ⟨_,
  (dsxs_cons (dsx_if (dt_not (dt_val (de_call (ok_fits T) (hr.mono (by decide)) rfl T.g_fits T.F_fits.kp T.b_fits (da_cons (de_var 1 (pv 1)) (da_cons (de_var 2 (pv 2)) da_nil)))))
 (dsxs_one (dsx_raiseK rfl (takes_of rfl rfl rfl rfl) (hr.mono (by decide)) (T.E_AssemblyError _ _) rfl (da_cons de_str da_nil)))
 (DSs.x dss_nil))
 (DSs.x (dss_cons (ds_setFd T.nC_Assembly T.cls_Assembly T.na_Assembly__pattern (pv 0) (de_var 1 (pv 1)))
 (dss_cons (ds_setFd T.nC_Assembly T.cls_Assembly T.na_Assembly__patches (pv 0) (de_tuple rfl T.n_tuple (de_var 2 (pv 2))))
 (dss_cons (ds_setFd T.nC_Assembly T.cls_Assembly T.na_Assembly__sections (pv 0) (de_call (ok_first_sections T) (hr.mono (by decide)) rfl T.g_first_sections T.F_first_sections.kp T.b_first_sections (da_cons (de_var 2 (pv 2)) da_nil)))
 (dss_one (ds_setFl T.nC_Assembly T.cls_Assembly T.na_Assembly__joins (pv 0) (dl_lst da_nil))))))))⟩
theorem ok_Workroom_start (T : Tx P K mg) : FnOk P w K mg base (L2.CX P w) 8 T.f_Workroom_start T.fd_Workroom_start ["self", "order"] (spPD K 0 F_Workroom_start) :=
  fn_okPD (k := 7) (j := 0) T.F_Workroom_start sc_Workroom_start (by decide) fun cdv A outer s H E hr => ⟨_,
  (dsxs_cons (dsx_dropK (dex_methR (takes_of rfl rfl rfl rfl) T.nC_Workroom T.cls_Workroom T.m_Workroom__check_waiting (ok_Workroom__check_waiting T) (hr.mono (by decide)) T.b_Workroom__check_waiting (pv 0) (da_cons (de_var 1 (pv 1)) da_nil)))
 (DSs.x (dss_cons (ds_asgG (de_at (de_fld T.nC_Workroom T.cls_Workroom T.na_Workroom__orders (pv 0)) (de_sub (de_var 1 (pv 1)) de_int) (fun _ _ => rfl)) (dg_tup (K := K) (n := 4) rfl rfl (dgs_cons (dg_name (i := 2) (pg_name (i := 2) sc_Workroom_start.nd rfl (by first | exact .inl rfl | exact .inr rfl))) (dgs_cons (dg_name (i := 3) (pg_name (i := 3) sc_Workroom_start.nd rfl (by first | exact .inl rfl | exact .inr rfl))) (dgs_cons (dg_name (i := 4) (pg_name (i := 4) sc_Workroom_start.nd rfl (by first | exact .inl rfl | exact .inr rfl))) (dgs_cons (dg_name (i := 4) (pg_name (i := 4) sc_Workroom_start.nd rfl (by first | exact .inl rfl | exact .inr rfl))) dgs_nil))))))
 (dss_cons (ds_dropMA T.nC_Workroom T.cls_Workroom T.m_Workroom__keep (ok_Workroom__keep T) (hr.mono (by decide)) T.b_Workroom__keep (pv 0) (da_cons de_str da_nil))
 (dss_cons (ds_setFd T.nC_Workroom T.cls_Workroom T.na_Workroom__orders (pv 0) (de_call (ok_with_state T) (hr.mono (by decide)) rfl T.g_with_state T.F_with_state.kp T.b_with_state (da_cons (de_fld T.nC_Workroom T.cls_Workroom T.na_Workroom__orders (pv 0)) (da_cons (de_var 1 (pv 1)) (da_cons (de_glob rfl T.g_STARTED (T.r_STARTED) (T.d_STARTED)) da_nil)))))
 (dss_one (ds_retNew T.mk_Assembly (ok_Assembly___init__ T) (hr.mono (by decide)) rfl T.gC_Assembly T.nC_Assembly T.b_Assembly___init__ (da_cons (de_var 2 (pv 2)) (da_cons (de_var 3 (pv 3)) da_nil)))))))))⟩
theorem ok_Workroom_undo (T : Tx P K mg) : FnOk P w K mg base (L2.CX P w) 1 T.f_Workroom_undo T.fd_Workroom_undo ["self"] (spPX K 0 F_Workroom_undo) :=
  fn_okPX (k := 0) (j := 0) T.F_Workroom_undo sc_Workroom_undo (by decide) fun cdv A outer s H E hr => ⟨_,
  (DSs.x (dss_cons (ds_if (dt_not (DT.scalF (i := 0) (C := "Workroom") (f := "_deeds") (dt_tr (de_fld T.nC_Workroom T.cls_Workroom T.na_Workroom__deeds (pv 0)))))
 (dss_one (ds_retK de_bl))
 dss_nil)
 (dss_cons (ds_popF4 (i := 0) (j := 1) (by decide) rfl T.nC_Workroom T.cls_Workroom T.na_Workroom__deeds T.na_Workroom__bought T.na_Workroom__stock T.na_Workroom__orders (pv 0) (pv 0) (pv 0) (pv 0) sc_Workroom_undo.nd rfl (by first | exact .inl rfl | exact .inr rfl))
 (dss_one (ds_retK (de_var 1 (pv 1)))))))⟩
theorem ok__law_do (T : Tx P K mg) : FnOk P w K mg base CX0 8 T.f__law_do T.fd__law_do ["room", "kind", "arguments"] (spP K 0 F__law_do) :=
  fn_okP (k := 7) (j := 0) T.F__law_do sc__law_do (by decide) fun cdv A outer s H E hr => ⟨_,
  (dss_one (ds_tryR (i := 3) (T.E_WorkroomError w base).ns (T.exm_WorkroomError_SewnError) rfl T.gS_SewnError sc__law_do.nd rfl rfl (dtb_if (fun _ _ => (by exact (dt_eqU (K := K) rfl hr.units (de_var 1 (pv 1)) de_int)))
 (dtb_ret (dem_meth T.cls_Workroom T.m_Workroom_buy (ok_Workroom_buy T) (hr.mono (by decide)) T.b_Workroom_buy T.nC_Workroom (fun _ _ => pv 0) (fun _ _ => (da_cons (de_atK (K := K) rfl (de_var 2 (pv 2)) de_int (fun _ _ => rfl)) (da_cons (de_atK (K := K) rfl (de_var 2 (pv 2)) de_int (fun _ _ => rfl)) da_nil)))))
 (dtb_if (fun _ _ => (by exact (dt_eqU (K := K) rfl hr.units (de_var 1 (pv 1)) de_int)))
 (dtb_ret (dem_meth T.cls_Workroom T.m_Workroom_take (ok_Workroom_take T) (hr.mono (by decide)) T.b_Workroom_take T.nC_Workroom (fun _ _ => pv 0) (fun _ _ => (da_cons (de_atK (K := K) rfl (de_var 2 (pv 2)) de_int (fun _ _ => rfl)) (da_cons (de_atK (K := K) rfl (de_var 2 (pv 2)) de_int (fun _ _ => rfl)) (da_cons (de_atK (K := K) rfl (de_var 2 (pv 2)) de_int (fun _ _ => rfl)) (da_cons (de_atK (K := K) rfl (de_var 2 (pv 2)) de_int (fun _ _ => rfl)) da_nil)))))))
 (dtb_never fun _ _ => (pss_cons ps_never (pss_cons ps_never pss_nil)))))
 (dsr_ifK (DWr.dt (dwr_or (dtr_not (dtr_val (der_isE (v := true) T.is_WorkroomError (T.kit_WorkroomError_WorkroomError) rfl T.n_isinstance rfl T.gS_WorkroomError (fun _ _ => pv 3) (by decide)))) (dwr_or (dtr_val (der_isE (v := false) T.is_WorkroomError (T.kit_WorkroomError_AssemblyError) rfl T.n_isinstance rfl T.gS_AssemblyError (fun _ _ => pv 3) (by decide))) (dwr_one (dtr_val (der_isE (v := false) T.is_WorkroomError (T.kit_WorkroomError_FabricError) rfl T.n_isinstance rfl T.gS_FabricError (fun _ _ => pv 3) (by decide)))))))
 (dsr_of (fun _ _ => (dss_one (ds_retK de_non))))
 (dsr_retK (der_tup (dar_cons (der_of (fun _ _ => de_str)) (dar_cons (der_fld (j := 0) (T.E_WorkroomError w base).xf ((T.E_WorkroomError w base).no _ (List.mem_of_getElem? (i := 0) rfl)) (by decide) rfl (fun _ _ => pv 3)) dar_nil)))))))⟩
theorem ok_law (T : Tx P K mg) {f : Addr} {fd : FuncData} (F : Fun K "law" "law" s_law f fd) : FnOk P w K mg base CX0 10 f fd ["script"] (spD K F_law) :=
  fn_ok (k := 9) F sc_law (by decide) fun cdv A outer s H E hr => ⟨_,
  (dss_cons (ds_setH (i := 1) sc_law.nd rfl (by first | exact .inl rfl | exact .inr rfl) (de_call (ok__law_draw T) (hr.mono (by decide)) rfl T.g__law_draw T.F__law_draw.kp T.b__law_draw (da_cons (de_var 0 (pv 0)) (da_cons de_int (da_cons (DL.de (dl_lst (da_cons de_int (da_cons de_int (da_cons de_int (da_cons de_int (da_cons de_int da_nil))))))) da_nil)))))
 (dss_cons (ds_newM0 (j := 2) T.mk_Workroom (ok_Workroom___init__ T) (hr.mono (by decide)) rfl T.gC_Workroom T.nC_Workroom T.b_Workroom___init__ sc_law.nd rfl (by first | exact .inl rfl | exact .inr rfl))
 (dss_cons (ds_setH (i := 3) sc_law.nd rfl (by first | exact .inl rfl | exact .inr rfl) (de_at de_str (de_at (de_var 1 (pv 1)) de_int (fun _ _ => rfl)) (fun _ _ => rfl)))
 (dss_cons (ds_if (dt_eq hr (de_at (de_var 1 (pv 1)) de_int (fun _ _ => rfl)) de_int)
 (dss_cons (ds_for PassesOwn.never rfl (di_r1 rfl T.n_range (da_cons de_int da_nil)) (dg_name (i := 4) (pg_name (i := 4) sc_law.nd rfl (by first | exact .inl rfl | exact .inr rfl)))
 (dss_one (ds_dropMA T.nC_Workroom T.cls_Workroom T.m_Workroom_buy (ok_Workroom_buy T) (hr.mono (by decide)) T.b_Workroom_buy (pv 2) (da_cons (de_var 3 (pv 3)) (da_cons de_int da_nil)))))
 (dss_cons (ds_setH (i := 5) sc_law.nd rfl (by first | exact .inl rfl | exact .inr rfl) (de_add de_int (de_mod (de_at (de_var 1 (pv 1)) de_int (fun _ _ => rfl)) de_int)))
 (dss_cons (ds_ifV (dv_ne hr (dv_callP (i := 2) (ok__law_do T) (hr.mono (by decide)) rfl T.g__law_do T.F__law_do.kp T.b__law_do (dap_here (pv 2) (da_cons de_int (da_cons (de_tup (da_cons (de_var 3 (pv 3)) (da_cons (de_var 5 (pv 5)) da_nil))) da_nil)))) (de_add de_int (de_var 5 (pv 5))))
 (dss_one (ds_ret de_bl))
 dss_nil)
 (dss_cons (ds_setH (i := 6) sc_law.nd rfl (by first | exact .inl rfl | exact .inr rfl) (de_sub de_int (de_at (de_prop T.nC_Workroom T.cls_Workroom T.po_Workroom_totals (ok_Workroom_totals T) (hr.mono (by decide)) T.b_Workroom_totals (pv 2)) de_int (fun _ _ => rfl))))
 (dss_cons (ds_for PassesOwn.never rfl (di_any (DL.de (dl_lst (da_cons (de_add (de_var 6 (pv 6)) de_int) (da_cons (de_add (de_var 6 (pv 6)) de_int) da_nil))))) (dg_name (i := 7) (pg_name (i := 7) sc_law.nd rfl (by first | exact .inl rfl | exact .inr rfl)))
 (dss_one (ds_ifV (dv_ne hr (dv_callP (i := 2) (ok__law_do T) (hr.mono (by decide)) rfl T.g__law_do T.F__law_do.kp T.b__law_do (dap_here (pv 2) (da_cons de_int (da_cons (de_tup (da_cons (de_var 3 (pv 3)) (da_cons (de_var 7 (pv 7)) da_nil))) da_nil)))) (de_tup (da_cons de_str (da_cons de_str da_nil))))
 (dss_one (ds_ret de_bl))
 dss_nil)))
 (dss_cons (ds_ifV (DXv.dt (dxv_and (DT.v (dt_gt (de_var 6 (pv 6)) de_int)) (dxv_one (dv_ne hr (dv_callP (i := 2) (ok__law_do T) (hr.mono (by decide)) rfl T.g__law_do T.F__law_do.kp T.b__law_do (dap_here (pv 2) (da_cons de_int (da_cons (de_tup (da_cons (de_var 3 (pv 3)) (da_cons (de_var 6 (pv 6)) da_nil))) da_nil)))) de_int))))
 (dss_one (ds_ret de_bl))
 dss_nil)
 (dss_cons (ds_setH (i := 8) sc_law.nd rfl (by first | exact .inl rfl | exact .inr rfl) (de_at de_str (de_mod (de_add (de_at (de_var 1 (pv 1)) de_int (fun _ _ => rfl)) de_int) de_int) (fun _ _ => rfl)))
 (dss_one (ds_retV (dv_eqV hr (dv_callP (i := 2) (ok__law_do T) (hr.mono (by decide)) rfl T.g__law_do T.F__law_do.kp T.b__law_do (dap_here (pv 2) (da_cons de_int (da_cons (de_tup (da_cons (de_var 8 (pv 8)) (da_cons de_int da_nil))) da_nil)))) de_int))))))))))
 dss_nil)
 (dss_cons (ds_dropMA T.nC_Workroom T.cls_Workroom T.m_Workroom_buy (ok_Workroom_buy T) (hr.mono (by decide)) T.b_Workroom_buy (pv 2) (da_cons (de_var 3 (pv 3)) (da_cons de_int da_nil)))
 (dss_cons (ds_for PassesOwn.never rfl (di_r1 rfl T.n_range (da_cons de_int da_nil)) (dg_name (i := 4) (pg_name (i := 4) sc_law.nd rfl (by first | exact .inl rfl | exact .inr rfl)))
 (dss_cons (ds_ifV (dv_ne hr (dv_meth T.nC_Workroom T.cls_Workroom T.m_Workroom_take (ok_Workroom_take T) (hr.mono (by decide)) T.b_Workroom_take (pv 2) (da_cons (de_tup (da_cons (de_tup (da_cons (de_var 3 (pv 3)) da_nil)) da_nil)) (da_cons (de_tup (da_cons (de_tup (da_cons de_int (da_cons de_int (da_cons de_int (da_cons de_int da_nil))))) da_nil)) (da_cons (de_add de_int (de_at (de_var 1 (pv 1)) de_int (fun _ _ => rfl))) (da_cons de_int da_nil))))) (de_add (de_var 4 (pv 4)) de_int))
 (dss_one (ds_ret de_bl))
 dss_nil)
 (dss_one (ds_if (dt_eq hr (de_add (de_var 4 (pv 4)) de_int) (de_at (de_var 1 (pv 1)) de_int (fun _ _ => rfl)))
 (dss_one (ds_dropMA T.nC_Workroom T.cls_Workroom T.m_Workroom_cancel (ok_Workroom_cancel T) (hr.mono (by decide)) T.b_Workroom_cancel (pv 2) (da_cons (de_add (de_var 4 (pv 4)) de_int) da_nil)))
 (dss_one (ds_if (dt_eq hr (de_add (de_var 4 (pv 4)) de_int) (de_at (de_var 1 (pv 1)) de_int (fun _ _ => rfl)))
 (dss_one (ds_dropPD T.nC_Workroom T.cls_Workroom T.m_Workroom_start (ok_Workroom_start T) (hr.mono (by decide)) T.b_Workroom_start (pv 2) (da_cons (de_add (de_var 4 (pv 4)) de_int) da_nil)))
 dss_nil))))))
 (dss_cons (ds_ifV (dv_ne hr (dv_callP (i := 2) (ok__law_do T) (hr.mono (by decide)) rfl T.g__law_do T.F__law_do.kp T.b__law_do (dap_here (pv 2) (da_cons de_int (da_cons (de_tup (da_cons (de_tup (da_cons (de_tup (da_cons (de_var 3 (pv 3)) da_nil)) da_nil)) (da_cons (de_tup (da_cons (de_tup (da_cons de_int (da_cons de_int (da_cons de_int (da_cons de_int da_nil))))) da_nil)) (da_cons de_int (da_cons de_int da_nil))))) da_nil)))) (de_tup (da_cons de_str (da_cons de_str da_nil))))
 (dss_one (ds_ret de_bl))
 dss_nil)
 (dss_one (ds_retV (dv_andV (dv_inV hr (dv_meth0 T.nC_Workroom T.cls_Workroom T.m_Workroom_undo (ok_Workroom_undo T) (hr.mono (by decide)) T.b_Workroom_undo (pv 2)) (DL.de (dl_lst (da_cons de_str (da_cons de_str (da_cons de_str da_nil))))) rfl) (de_one (de_ge (de_len rfl T.n_len (de_prop T.nC_Workroom T.cls_Workroom T.po_Workroom_orders (ok_Workroom_orders T) (hr.mono (by decide)) T.b_Workroom_orders (pv 2))) de_int))))))))))))⟩
end
end G

namespace DD
open PySem L2 C
section
variable {fi : En → Option (List D)} {gd : D → En → Option En} {g : En → Option Out} {en : En}
end
end DD

namespace C
open PySem DD L2
section
variable {R : Rc} {ps : List Rc}
def own (ps : List Rc) (q : XY) : Option Nat := whose ps ps.length q
end
def prs (ps : List Rc) : List XY := (nbs ps).map fun z => (z.1, z.2.1)
end C

namespace G
open PySem DD C L2
abbrev Fm := List (Str × Int)
def addF : Fm → Str → Int → Fm
  | [], f, a => [(f, a)]
  | (g, n) :: r, f, a => if g = f then (g, n + a) :: r else (g, n) :: addF r f a
def getF : Fm → Str → Int
  | [], _ => 0
  | (g, n) :: r, f => if g = f then n else getF r f
def fks (l : Fm) : List Key := (l.map (·.1)).map Sum.inr
def fvs (l : Fm) : List D := l.map fun x => .int x.2
theorem inr_ne {a b : Str} (h : a ≠ b) : (Sum.inr a : Key) ≠ Sum.inr b := fun z => h (Sum.inr.inj z)
theorem look_F0 : ∀ (l : Fm) (f : Str), (look (fks l) (fvs l) (.inr f)).getD (.int 0) = .int (getF l f)
  | [], f => rfl
  | (g, n) :: r, f => by
    show (if (Sum.inr g : Key) = Sum.inr f then some (D.int n) else look (fks r) (fvs r) (.inr f)).getD (.int 0) = D.int (if g = f then n else getF r f)
    by_cases e : g = f
    · subst e; rw [if_pos rfl, if_pos rfl] <;> rfl
    · rw [if_neg (inr_ne e), if_neg e]; exact look_F0 r f
theorem look_F : ∀ (l : Fm) (f : Str), f ∈ l.map (·.1) → look (fks l) (fvs l) (.inr f) = some (.int (getF l f))
  | [], f, h => by cases h
  | (g, n) :: r, f, h => by
    show (if (Sum.inr g : Key) = Sum.inr f then some (D.int n) else look (fks r) (fvs r) (.inr f)) = some (D.int (if g = f then n else getF r f))
    by_cases e : g = f
    · subst e; rw [if_pos rfl, if_pos rfl] <;> rfl
    · rw [if_neg (inr_ne e), if_neg e]
      refine look_F r f ?_
      rcases List.mem_cons.mp h with h | h
      · exact absurd h.symm e
      · exact h
theorem put_F : ∀ (l : Fm) (f : Str) (a : Int), putKs (fks l) (fvs l) (.inr f) (.int (getF l f + a)) = (fks (addF l f a), fvs (addF l f a))
  | [], f, a => by
    show (([Sum.inr f] : List Key), [D.int (0 + a)]) = ([Sum.inr f], [D.int a])
    rw [Int.zero_add]
  | (g, n) :: r, f, a => by
    show (if (Sum.inr g : Key) = Sum.inr f then _ else _) = _
    unfold addF getF
    by_cases e : g = f
    · subst e
      rw [if_pos rfl, if_pos rfl, if_pos rfl] <;> rfl
    · rw [if_neg (inr_ne e), if_neg e, if_neg e]
      show ((Sum.inr g : Key) :: (putKs (fks r) (fvs r) (.inr f) (.int (getF r f + a))).1, D.int n :: (putKs (fks r) (fvs r) (.inr f) (.int (getF r f + a))).2) = _
      rw [put_F r f a] <;> rfl
theorem keys_F (f : Str) (a : Int) : ∀ l : Fm, (addF l f a).map (·.1) = if f ∈ l.map (·.1) then l.map (·.1) else l.map (·.1) ++ [f]
  | [] => rfl
  | (g, n) :: r => by
    unfold addF
    by_cases e : g = f
    · subst e
      rw [if_pos rfl, if_pos (by rw [List.map_cons]; exact List.mem_cons_self)] <;> rfl
    · rw [if_neg e, List.map_cons, keys_F f a r, List.map_cons]
      by_cases h : f ∈ r.map (·.1)
      · rw [if_pos h, if_pos (List.mem_cons_of_mem _ h)]
      · rw [if_neg h, if_neg fun z => (List.mem_cons.mp z).elim (fun z => e z.symm) h] <;> rfl
theorem nod_F {f : Str} {a : Int} {l : Fm} (h : (l.map (·.1)).Nodup) : ((addF l f a).map (·.1)).Nodup := by
  rw [keys_F]
  split
  · exact h
  · rename_i e
    exact List.nodup_append.mpr ⟨h, List.nodup_cons.mpr ⟨List.not_mem_nil, List.nodup_nil⟩, fun x hx y hy => by
      rw [List.mem_singleton.mp hy]
      intro z
      subst z
      exact e hx⟩
theorem len_F (f : Str) (a : Int) (l : Fm) : (addF l f a).length ≤ l.length + 1 := by
  have := congrArg List.length (keys_F f a l)
  rw [List.length_map] at this
  rw [this]
  split
  · rw [List.length_map]; omega
  · rw [List.length_append, List.length_map]; exact Nat.le_refl _
theorem fks_nodup {l : Fm} (h : (l.map (·.1)).Nodup) : (fks l).Nodup := List.Pairwise.map _ (fun a b (h : a ≠ b) => inr_ne h) h
theorem put_ofF {i : Nat} {fk f : En → Option D} {en : En} {d : D} {x : Str} {ks : List Key} {ds : List D} (h : f en = some d) (hk : fk en = some (.str x)) (hi : en[i]? = some (.owd ks ds)) (hn : ks.Nodup) (hl : ks.length ≤ 1000) :
    sPut i fk f en = some (.nx (en.set i (.owd (putKs ks ds (.inr x) d).1 (putKs ks ds (.inr x) d).2))) := by
  show (f en).bind _ = _
  rw [h]
  show (fk en).bind _ = _
  rw [hk]
  show (match en[i]? with
    | some (.owd ks ds) => if ks.Nodup ∧ ks.length ≤ lim then some (.nx (en.set i (.owd (putKs ks ds (.inr x) d).1 (putKs ks ds (.inr x) d).2))) else none
    | _ => none : Option Out) = _
  rw [hi]
  exact if_pos ⟨hn, lim_of hl⟩
def pairF (x : Str × Int) : D := .tup [.str x.1, .int x.2]
def addL (l : Fm) (ys : Fm) : Fm := ys.foldl (fun l y => addF l y.1 y.2) l
def nzF (l : Fm) : Fm := ((srt (l.map (·.1))).filter fun x => !decide (getF l x = 0)).map fun x => (x, getF l x)
theorem nod_L : ∀ {ys l : Fm}, (l.map (·.1)).Nodup → ((addL l ys).map (·.1)).Nodup
  | [], l, h => h
  | y :: ys, l, h => nod_L (ys := ys) (nod_F h)
theorem len_L : ∀ (ys l : Fm), (addL l ys).length ≤ l.length + ys.length
  | [], l => Nat.le_refl _
  | y :: ys, l => by
    have h1 := len_L ys (addF l y.1 y.2)
    have h2 := len_F y.1 y.2 l
    rw [List.length_cons]
    exact Nat.le_trans h1 (by omega)
def gIn : En → Option Out := sFor (iAny (dVar 2)) (gTupD (gsCons (gSet 3) (gsCons (gSet 4) gsNil)) 2) (sPut 1 (dVar 3) (dScal (d2 gAdd (dDget2 (dVar 1) (dVar 3) (dC (.int 0))) (dVar 4))))
theorem in_ok (T s3 s4 : Sl) (l ys : Fm) (nd : (l.map (·.1)).Nodup) (hl : l.length + ys.length ≤ 60) : ∃ s3' s4', gIn [T, .owd (fks l) (fvs l), .dat (.lst (ys.map pairF)), s3, s4] = some (.nx [T, .owd (fks (addL l ys)) (fvs (addL l ys)), .dat (.lst (ys.map pairF)), s3', s4']) := by
  let Y : D := .lst (ys.map pairF)
  let E : Fm → Sl → Sl → En := fun l s3 s4 => [T, .owd (fks l) (fvs l), .dat Y, s3, s4]
  obtain ⟨en', g, s3', s4', rfl⟩ := for_of (fi := iAny (dVar 2)) (gd := gTupD (gsCons (gSet 3) (gsCons (gSet 4) gsNil)) 2) (g := sPut 1 (dVar 3) (dScal (d2 gAdd (dDget2 (dVar 1) (dVar 3) (dC (.int 0))) (dVar 4)))) (en := E l s3 s4) ys pairF rfl
    (fun i en => ∃ s3 s4, en = E (addL l (ys.take i)) s3 s4) ⟨_, _, rfl⟩ (fun i x en hx hI => by
      obtain ⟨s3, s4, rfl⟩ := hI
      have hi := (List.getElem?_eq_some_iff.mp hx).1
      let m := addL l (ys.take i)
      have nm : (m.map (·.1)).Nodup := nod_L nd
      have lm : m.length ≤ 60 := by
        have := len_L (ys.take i) l
        rw [List.length_take] at this
        show (addL l (ys.take i)).length ≤ 60
        omega
      have v : dScal (d2 gAdd (dDget2 (dVar 1) (dVar 3) (dC (.int 0))) (dVar 4)) (E m (.dat (.str x.1)) (.dat (.int x.2))) = some (.int (getF m x.1 + x.2)) := by
        refine scal_of (d2_of (x := .int (getF m x.1)) (y := .int x.2) ?_ rfl rfl) rfl
        show some ((look (fks m) (fvs m) (.inr x.1)).getD (.int 0)) = _
        rw [look_F0]
      have g1 : sPut 1 (dVar 3) (dScal (d2 gAdd (dDget2 (dVar 1) (dVar 3) (dC (.int 0))) (dVar 4))) (E m (.dat (.str x.1)) (.dat (.int x.2))) = some (.nx (E (addF m x.1 x.2) (.dat (.str x.1)) (.dat (.int x.2)))) := by
        refine (put_ofF (x := x.1) v rfl rfl (fks_nodup nm) (by unfold fks; rw [List.length_map, List.length_map]; omega)).trans ?_
        rw [put_F] <;> rfl
      have em : addL l (ys.take (i + 1)) = addF m x.1 x.2 := by
        show addL l _ = _
        rw [take_snoc hx]
        unfold addL
        rw [List.foldl_append] <;> rfl
      exact ⟨_, _, rfl, .inl g1, _, _, by rw [em]⟩)
  rw [List.take_length] at g
  exact ⟨_, _, g⟩
theorem added_ok (xs : List Fm) (hl : xs.flatten.length ≤ 60) : F_added_areas [.tup (xs.map fun ys => .lst (ys.map pairF))] = some (.lst ((nzF (addL [] xs.flatten)).map pairF)) := by
  let T : D := .tup (xs.map fun ys => .lst (ys.map pairF))
  let E : Fm → Sl → Sl → Sl → En := fun l s2 s3 s4 => [.dat T, .owd (fks l) (fvs l), s2, s3, s4]
  obtain ⟨en', g, s2, s3, s4, rfl⟩ := for_of (fi := iAny (dVar 0)) (gd := gSet 2) (g := gIn) (en := E [] .no .no .no) xs (fun ys => .lst (ys.map pairF)) rfl
    (fun i en => ∃ s2 s3 s4, en = E (addL [] (xs.take i).flatten) s2 s3 s4) ⟨_, _, _, rfl⟩ (fun i x en hx hI => by
      obtain ⟨s2, s3, s4, rfl⟩ := hI
      have et : (xs.take (i + 1)).flatten = (xs.take i).flatten ++ x := by
        rw [take_snoc hx, List.flatten_append]
        simp
      have lt : (xs.take (i + 1)).flatten.length ≤ 60 := by
        have q : xs.flatten = (xs.take (i + 1)).flatten ++ (xs.drop (i + 1)).flatten := by rw [← List.flatten_append, List.take_append_drop]
        rw [q, List.length_append] at hl
        omega
      rw [et, List.length_append] at lt
      obtain ⟨s3', s4', h⟩ := in_ok (.dat T) s3 s4 (addL [] (xs.take i).flatten) x (nod_L List.nodup_nil) (by
        have := len_L (xs.take i).flatten []
        have : (addL [] (xs.take i).flatten).length ≤ 0 + (xs.take i).flatten.length := this
        omega)
      have em : addL [] (xs.take (i + 1)).flatten = addL (addL [] (xs.take i).flatten) x := by
        rw [et]
        unfold addL
        rw [List.foldl_append]
      exact ⟨_, _, rfl, .inl h, .dat (.lst (x.map pairF)), s3', s4', by rw [em]⟩)
  rw [List.take_length] at g
  let l := addL [] xs.flatten
  have nd : (l.map (·.1)).Nodup := nod_L List.nodup_nil
  have ll : l.length ≤ 60 := by
    have := len_L xs.flatten []
    have : (addL [] xs.flatten).length ≤ 0 + xs.flatten.length := this
    show (addL [] xs.flatten).length ≤ 60
    omega
  let S := srt (l.map (·.1))
  have pm : S.Perm (l.map (·.1)) := List.mergeSort_perm _ DD.leS
  have sl : S.length ≤ 60 := by
    rw [pm.length_eq, List.length_map]
    omega
  refine run_rt rfl (seq rfl (seq g ?_))
  show sRet _ (frz 1 (E l s2 s3 s4)) = _
  have fz : frz 1 (E l s2 s3 s4) = [.dat T, .dat (.dic (fks l) (fvs l)), s2, s3, s4] := rfl
  rw [fz]
  have so : lSortD (dVar 1) [.dat T, .dat (.dic (fks l) (fvs l)), s2, s3, s4] = some (S.map D.str) := by
    show (keyStrs (fks l)).bind _ = _
    unfold fks
    rw [keyStrs_inr]
    exact if_pos (by rw [List.length_map]; omega)
  have e : lLc (iAny (dL (lSortD (dVar 1)))) (gSet 3) (tBl (d2 gNe (dDget (dVar 1) (dVar 3)) (dC (.int 0)))) (dTup (aCons (dVar 3) (aCons (dDget (dVar 1) (dVar 3)) aNil))) [3] [.dat T, .dat (.dic (fks l) (fvs l)), s2, s3, s4] = some ((S.filter fun x => !decide (getF l x = 0)).map fun x => pairF (x, getF l x)) :=
    lc_of S D.str (fun x => pairF (x, getF l x)) (fun x => !decide (getF l x = 0)) (any_lst (dL_of so)) (by omega) fun x hx => by
      have hx' := pm.mem_iff.mp hx
      have v : dDget (dVar 1) (dVar 3) [.dat T, .dat (.dic (fks l) (fvs l)), s2, .dat (.str x), s4] = some (.int (getF l x)) := look_F l x hx'
      refine ⟨[.dat T, .dat (.dic (fks l) (fvs l)), s2, .dat (.str x), s4], rfl, ?_, fun _ => tup_of (a_two rfl v)⟩
      exact bl_of (d2_of (y := .int 0) v rfl (ne_ints _ _))
  refine ret_of ((dL_of e).trans ?_)
  unfold nzF
  rw [List.map_map] <;> rfl
theorem nz_one {f : Str} {v : Int} (h : v ≠ 0) : nzF [(f, v)] = [(f, v)] := by
  unfold nzF
  have e : srt (([(f, v)] : Fm).map (·.1)) = [f] := List.mergeSort_singleton f
  rw [e]
  have g : getF [(f, v)] f = v := if_pos rfl
  have n1 : (!decide (getF [(f, v)] f = 0)) = true := by rw [g, decide_eq_false h] <;> rfl
  have z : ([f].filter fun x => !decide (getF [(f, v)] x = 0)) = [f] := List.filter_cons_of_pos (p := fun x => !decide (getF [(f, v)] x = 0)) n1
  rw [z]
  show [(f, getF [(f, v)] f)] = _
  rw [g]
theorem add_one {f : Str} {v a : Int} : addL [] ([[(f, v)], [(f, a)]] : List Fm).flatten = [(f, v + a)] := by
  show addF [(f, v)] f a = _
  unfold addF
  rw [if_pos rfl]
theorem added_0 {f : Str} {a : Int} (h : a ≠ 0) : F_added_areas [.tup [.lst [], .lst [pairF (f, a)]]] = some (.lst [pairF (f, a)]) := by
  have e := added_ok [[], [(f, a)]] (Nat.le_of_ble_eq_true rfl)
  rw [show addL [] ([[], [(f, a)]] : List Fm).flatten = [(f, a)] from rfl, nz_one h] at e
  exact e
theorem added_00 {f : Str} {a : Int} (h : a ≠ 0) : F_added_areas [.tup [.lst [pairF (f, a)]]] = some (.lst [pairF (f, a)]) := by
  have e := added_ok [[(f, a)]] (Nat.le_of_ble_eq_true rfl)
  rw [show addL [] ([[(f, a)]] : List Fm).flatten = [(f, a)] from rfl, nz_one h] at e
  exact e
theorem added_1 {f : Str} {v a : Int} (h : v + a ≠ 0) : F_added_areas [.tup [.lst [pairF (f, v)], .lst [pairF (f, a)]]] = some (.lst [pairF (f, v + a)]) := by
  have e := added_ok [[(f, v)], [(f, a)]] (Nat.le_of_ble_eq_true rfl)
  rw [add_one, nz_one h] at e
  exact e
theorem added_2 {f g : Str} {v a : Int} (hfg : f ≠ g) (hv : v ≠ 0) (ha : a ≠ 0) : F_added_areas [.tup [.lst [pairF (f, v)], .lst [pairF (g, a)]]] = some (.lst [pairF (f, v), pairF (g, a)]) ∨ F_added_areas [.tup [.lst [pairF (f, v)], .lst [pairF (g, a)]]] = some (.lst [pairF (g, a), pairF (f, v)]) := by
  have e := added_ok [[(f, v)], [(g, a)]] (Nat.le_of_ble_eq_true rfl)
  have e1 : addL [] ([[(f, v)], [(g, a)]] : List Fm).flatten = [(f, v), (g, a)] := by
    show addF [(f, v)] g a = _
    unfold addF
    rw [if_neg hfg] <;> rfl
  rw [e1] at e
  let l : Fm := [(f, v), (g, a)]
  have g1 : getF l f = v := if_pos rfl
  have g2 : getF l g = a := (if_neg hfg).trans (if_pos rfl)
  have pm : (srt (l.map (·.1))).Perm [f, g] := List.mergeSort_perm _ DD.leS
  have pc : srt (l.map (·.1)) = [f, g] ∨ srt (l.map (·.1)) = [g, f] := by
    have l2 : (srt (l.map (·.1))).length = 2 := pm.length_eq
    generalize srt (l.map (·.1)) = S at pm l2
    obtain ⟨x, y, rfl⟩ : ∃ x y, S = [x, y] := by
      cases S with
      | nil => cases l2
      | cons x r =>
        cases r with
        | nil => cases l2
        | cons y r =>
          cases r with
          | nil => exact ⟨x, y, rfl⟩
          | cons z r => cases l2
    rcases List.mem_cons.mp (pm.mem_iff.mp (List.mem_cons_self (a := x))) with hx | hx
    · subst hx
      left
      rw [List.perm_singleton.mp ((List.perm_cons x).mp pm)]
    · have hx := List.mem_singleton.mp hx
      subst hx
      right
      rw [List.perm_singleton.mp ((List.perm_cons x).mp (pm.trans (List.Perm.swap x f [])))]
  have n1 : (!decide (getF l f = 0)) = true := by rw [g1, decide_eq_false hv] <;> rfl
  have n2 : (!decide (getF l g = 0)) = true := by rw [g2, decide_eq_false ha] <;> rfl
  rcases pc with h | h
  · left
    have z : nzF l = [(f, v), (g, a)] := by
      unfold nzF
      have q : ([f, g].filter fun x => !decide (getF l x = 0)) = [f, g] := (List.filter_cons_of_pos (p := fun x => !decide (getF l x = 0)) n1).trans (congrArg (f :: ·) (List.filter_cons_of_pos (p := fun x => !decide (getF l x = 0)) n2))
      rw [h, q]
      show [(f, getF l f), (g, getF l g)] = _
      rw [g1, g2]
    have e : F_added_areas _ = some (.lst ((nzF l).map pairF)) := e
    rw [z] at e
    exact e
  · right
    have z : nzF l = [(g, a), (f, v)] := by
      unfold nzF
      have q : ([g, f].filter fun x => !decide (getF l x = 0)) = [g, f] := (List.filter_cons_of_pos (p := fun x => !decide (getF l x = 0)) n2).trans (congrArg (g :: ·) (List.filter_cons_of_pos (p := fun x => !decide (getF l x = 0)) n1))
      rw [h, q]
      show [(g, getF l g), (f, getF l f)] = _
      rw [g1, g2]
    have e : F_added_areas _ = some (.lst ((nzF l).map pairF)) := e
    rw [z] at e
    exact e
end G

namespace G
open PySem DD C L2
def roomT (b : Int) (st od de : List D) : DD.Tr := .ob "Workroom" ["_bought", "_stock", "_orders", "_deeds"] [.lf (.int b), .lf (.lst st), .lf (.lst od), .ls (de.map DD.Tr.lf)]
def deedD (x : Str) (b : Int) (st od : List D) : D := .tup [.str x, .int b, .lst st, .lst od]
section
variable {b : Int} {st od de : List D}
theorem seqM {g h : En → Option Out} {en en' : En} {t : DD.Tr} (h1 : g en = some (.rm t en')) : sSeq g h en = some (.rm t en') := by
  unfold sSeq
  rw [h1] <;> rfl
theorem kept (x : Str) (hl : de.length ≤ 1100) : F_Workroom__keep (roomT b st od de) [.str x] = some (.non, roomT b st od (de ++ [deedD x b st od])) := by
  have g : g_Workroom__keep [.par (roomT b st od de), .dat (.str x)] = some (.nx [.par (roomT b st od (de ++ [deedD x b st od])), .dat (.str x)]) := by
    show (if (de.map DD.Tr.lf).length ≤ lim then _ else none) = _
    rw [if_pos (show (de.map DD.Tr.lf).length ≤ lim from Nat.le_trans (by rw [List.length_map]; exact hl) (show 1100 ≤ lim by decide))]
    unfold roomT
    rw [List.map_append] <;> rfl
  show (g_Workroom__keep [.par (roomT b st od de), .dat (.str x)]).bind _ = _
  rw [g] <;> rfl
theorem keep_st (x : Str) (hl : de.length ≤ 1100) (r : En) : sDropM (callMV 0 "Workroom" "_keep" F_Workroom__keep (aCons (dC (.str x)) aNil)) (.par (roomT b st od de) :: r) = some (.nx (.par (roomT b st od (de ++ [deedD x b st od])) :: r)) := by
  have e : callM 0 "Workroom" "_keep" F_Workroom__keep (aCons (dC (.str x)) aNil) (.par (roomT b st od de) :: r) = some (.non, .par (roomT b st od (de ++ [deedD x b st od])) :: r) := by
    show (F_Workroom__keep (roomT b st od de) [.str x]).map _ = _
    rw [kept x hl] <;> rfl
  show ((callM 0 "Workroom" "_keep" F_Workroom__keep (aCons (dC (.str x)) aNil) (.par (roomT b st od de) :: r)).bind _).map _ = _
  rw [e] <;> rfl
theorem callR_of {F : List D → Option D} {fr : En → Option (List D)} {en : En} {ds : List D} {d : D} (h : fr en = some ds) (hF : F [.tup ds] = some d) (hl : ds.length ≤ lim := by exact Nat.le_of_ble_eq_true rfl) : dCallR F fr en = some d := by
  show (fr en).bind _ = _
  rw [h]
  exact (if_pos hl).trans hF
structure Tot (st : List D) (f : Str) (t : Int) : Prop where
  e : ∃ r, pairsOf st = some r ∧ (r.map (·.1)).Nodup ∧ (look (r.map (·.1)) (r.map (·.2)) (.inr f)).getD (.int 0) = .int t
theorem Tot.get (h : Tot st f t) : ∀ en : En, en[3]? = some (.dat (.lst st)) → en[1]? = some (.dat (.str f)) → dDget2 (dDictP (dVar 3)) (dVar 1) (dC (.int 0)) en = some (.int t) := fun en h3 h1 => by
  obtain ⟨r, e1, e2, e3⟩ := h.e
  have ed : dDictP (dVar 3) en = some (.dic (r.map (·.1)) (r.map (·.2))) := by
    show (dVar 3 en).bind _ = _
    rw [dVar_of h3]
    show (pairsOf st).bind _ = _
    rw [e1]
    exact if_pos e2
  show (dDictP (dVar 3) en).bind _ = _
  rw [ed]
  show (dVar 1 en).bind _ = _
  rw [dVar_of h1]
  show some ((look (r.map (·.1)) (r.map (·.2)) (.inr f)).getD (.int 0)) = _
  rw [e3]
theorem tot_one {f : Str} {v : Int} : Tot [pairF (f, v)] f v := ⟨⟨[(.inr f, .int v)], rfl, List.nodup_cons.mpr ⟨List.not_mem_nil, List.nodup_nil⟩, by
  show (if (Sum.inr f : Key) = Sum.inr f then some (D.int v) else none).getD (.int 0) = _
  rw [if_pos rfl] <;> rfl⟩⟩
theorem tot_two {f g : Str} {v a : Int} (h : f ≠ g) : Tot [pairF (f, v), pairF (g, a)] g a := ⟨⟨[(.inr f, .int v), (.inr g, .int a)], rfl, List.nodup_cons.mpr ⟨fun z => inr_ne h (List.mem_singleton.mp z), List.nodup_cons.mpr ⟨List.not_mem_nil, List.nodup_nil⟩⟩, by
  show (if (Sum.inr f : Key) = Sum.inr g then some (D.int v) else if (Sum.inr g : Key) = Sum.inr g then some (D.int a) else none).getD (.int 0) = _
  rw [if_neg (inr_ne h), if_pos rfl] <;> rfl⟩⟩
theorem tot_two' {f g : Str} {v a : Int} (h : f ≠ g) : Tot [pairF (g, a), pairF (f, v)] g a := ⟨⟨[(.inr g, .int a), (.inr f, .int v)], rfl, List.nodup_cons.mpr ⟨fun z => inr_ne h.symm (List.mem_singleton.mp z), List.nodup_cons.mpr ⟨List.not_mem_nil, List.nodup_nil⟩⟩, by
  show (if (Sum.inr g : Key) = Sum.inr g then some (D.int a) else _).getD (.int 0) = _
  rw [if_pos rfl] <;> rfl⟩⟩
theorem buy_core {f : Str} {a t : Int} {st' : List D} (h1 : F_added_areas [.tup [.lst st, .lst [pairF (f, a)]]] = some (.lst st')) (h2 : Tot st' f t) (hl : de.length ≤ 1100) :
    F_Workroom_buy (roomT b st od de) [.str f, .int a] = if t ≤ 1000000000 then some (.int t, roomT (b + a) st' od (de ++ [deedD "buy" b st od])) else some (excD "WorkroomError" ["what"] [.str "too much"], roomT b st od de) := by
  let E : DD.Tr → Sl → Sl → En := fun r s3 s4 => [.par r, .dat (.str f), .dat (.int a), s3, s4]
  let R := roomT b st od de
  have s1 : sSet 3 (dCallR F_added_areas (aCons (dFld 0 "Workroom" "_stock") (aCons (dL (lLst (aCons (dTup (aCons (dVar 1) (aCons (dVar 2) aNil))) aNil))) aNil))) (E R .no .no) = some (.nx (E R (.dat (.lst st')) .no)) := set_of (callR_of (a_two rfl rfl) h1)
  have s2 : sSet 4 (dDget2 (dDictP (dVar 3)) (dVar 1) (dC (.int 0))) (E R (.dat (.lst st')) .no) = some (.nx (E R (.dat (.lst st')) (.dat (.int t)))) := set_of (h2.get _ rfl rfl)
  have t3 : tBl (d2 gGt (dVar 4) (dC k_STOCK)) (E R (.dat (.lst st')) (.dat (.int t))) = some (decide (1000000000 < t)) := rfl
  by_cases c : t ≤ 1000000000
  · rw [if_pos c]
    rw [decide_eq_false (by omega)] at t3
    have s5 : sAugF 0 "Workroom" "_bought" (dVar 2) (E (roomT b st od (de ++ [deedD "buy" b st od])) (.dat (.lst st')) (.dat (.int t))) = some (.nx (E (roomT (b + a) st od (de ++ [deedD "buy" b st od])) (.dat (.lst st')) (.dat (.int t)))) := rfl
    have s6 : sSetF 0 "Workroom" "_stock" (fun en => ((dVar 3) en).map DD.Tr.lf) (E (roomT (b + a) st od (de ++ [deedD "buy" b st od])) (.dat (.lst st')) (.dat (.int t))) = some (.nx (E (roomT (b + a) st' od (de ++ [deedD "buy" b st od])) (.dat (.lst st')) (.dat (.int t)))) := rfl
    have g : g_Workroom_buy (E R .no .no) = some (.rm (.lf (.int t)) (E (roomT (b + a) st' od (de ++ [deedD "buy" b st od])) (.dat (.lst st')) (.dat (.int t)))) :=
      seq s1 (seq s2 (seq (sifF t3 rfl) (seq (keep_st "buy" hl _) (seq s5 (seq s6 rfl)))))
    show (g_Workroom_buy (E R .no .no)).bind _ = _
    rw [g] <;> rfl
  · rw [if_neg c]
    rw [decide_eq_true (by omega)] at t3
    have g : g_Workroom_buy (E R .no .no) = some (.rm (.lf (excD "WorkroomError" ["what"] [.str "too much"])) (E R (.dat (.lst st')) (.dat (.int t)))) :=
      seq s1 (seq s2 (seqM (sifT t3 rfl)))
    show (g_Workroom_buy (E R .no .no)).bind _ = _
    rw [g] <;> rfl
end
def rc1 : Rc := ⟨0, 0, 1, 1⟩
def pt1 (a : Nat) : List (List Cell) := [[.pl a]]
theorem tile1 : TileR ⟨0, 0, 1, 1⟩ [rc1] := ⟨fun r hr => by
  rw [List.mem_singleton.mp hr]
  exact ⟨Nat.le_refl _, Nat.le_refl _, Nat.le_refl _, Nat.le_refl _, Nat.le_refl _, Nat.le_refl _⟩, fun x y h => by
  show [rc1].countP (inR x y) = 1
  rw [List.countP_cons, List.countP_nil]
  have h : inR x y rc1 = true := h
  rw [h] <;> rfl⟩
theorem wh1 {a : Nat} (h : 97 ≤ a ∧ a ≤ 122) : Wh 1 1 (pt1 a) [rc1] where
  pat := ⟨⟨rfl, fun r hr => by rw [List.mem_singleton.mp hr] <;> rfl⟩, fun x y hx hy => by
    obtain rfl : x = 0 := by omega
    obtain rfl : y = 0 := by omega
    exact h, Nat.le_refl _, by decide, Nat.le_refl _, by decide⟩
  tile := tile1
  one := fun r hr => by
    rw [List.mem_singleton.mp hr]
    exact ⟨Nat.le_refl _, Nat.le_refl _, Nat.le_refl _, Nat.le_refl _, .inl ⟨rfl, rfl⟩⟩
def ltr (a : Nat) : Str := (Cell.pl a).s
theorem mulc {a : Int} {c : Nat} (hb : c ≤ 1000) : gMulI (.int a) (natD c) = some (.int (a * (c : Int))) := gMul_r (show Nat.ble _ _ = true from Nat.ble_eq.mpr (by omega))
theorem areas1 {a : Nat} (h : 97 ≤ a ∧ a ≤ 122) {c : Nat} (hc : c ≤ 40) : F_areas_of_patch [patC (pt1 a), rcD rc1, natD c, natD 0] = some (.lst [pairF (ltr a, 2 * (c : Int) * (c : Int))]) := by
  have piece : F_plain_piece [rcD rc1, natD c, natD 0] = some (.tup [natD c, natD c]) := by
    let E : En := [.dat (rcD rc1), .dat (natD c), .dat (natD 0), .dat (natD 0), .dat (natD 1), .dat (natD 1)]
    have g1 : sAsgG (dVar 0) (gTupD (gsCons (gSet 3) (gsCons (gSet 3) (gsCons (gSet 4) (gsCons (gSet 5) gsNil)))) 4) [.dat (rcD rc1), .dat (natD c), .dat (natD 0), .no, .no, .no] = some (.nx E) := rfl
    have z : ∀ x : Nat, d2 gAdd (d2 gMulI (dVar 4) (dVar 1)) (d2 gMulI (dC (.int 2)) (dVar 2)) E = some (natD c) := fun x => by
      refine d2_of (x := .int ((1 : Int) * (c : Int))) (y := .int 0) (d2_of (x := natD 1) rfl rfl (mulc (by omega))) rfl ?_
      show some (D.int ((1 : Int) * (c : Int) + 0)) = some (D.int (c : Int))
      congr 2
      omega
    have z2 : d2 gAdd (d2 gMulI (dVar 5) (dVar 1)) (d2 gMulI (dC (.int 2)) (dVar 2)) E = some (natD c) := by
      refine d2_of (x := .int ((1 : Int) * (c : Int))) (y := .int 0) (d2_of (x := natD 1) rfl rfl (mulc (by omega))) rfl ?_
      show some (D.int ((1 : Int) * (c : Int) + 0)) = some (D.int (c : Int))
      congr 2
      omega
    exact run_rt rfl (seq g1 (ret_of (tup_of (a_two z2 (z 0)))))
  let C : Sl := .dat (.str (ltr a))
  let E : Sl → Sl → En := fun s6 s7 => [.dat (patC (pt1 a)), .dat (rcD rc1), .dat (natD c), .dat (natD 0), C, .no, s6, s7, .no]
  have t1 : tBl (dCall F_is_fabric (aCons (dVar 4) aNil)) (E .no .no) = some true := bl_of (call_of (a_one rfl) (is_fabric_ok (c := .pl a) h))
  have e1 : d2 gMulI (d2 gMulI (dC (.int 2)) (dVar 6)) (dVar 7) (E (.dat (natD c)) (.dat (natD c))) = some (.int (2 * (c : Int) * (c : Int))) :=
    d2_of (x := .int (2 * (c : Int))) (d2_of (x := .int 2) rfl rfl (mulc (by omega))) rfl (mulc (by omega))
  have e2 : dTup (aCons (dVar 4) (aCons (d2 gMulI (d2 gMulI (dC (.int 2)) (dVar 6)) (dVar 7)) aNil)) (E (.dat (natD c)) (.dat (natD c))) = some (pairF (ltr a, 2 * (c : Int) * (c : Int))) := tup_of (a_two rfl e1)
  have cell : F_cell_of [patC (pt1 a), rcD rc1] = some (.str (ltr a)) := rfl
  have s1 : sSet 4 (dCall F_cell_of (aCons (dVar 0) (aCons (dVar 1) aNil))) [.dat (patC (pt1 a)), .dat (rcD rc1), .dat (natD c), .dat (natD 0), .no, .no, .no, .no, .no] = some (.nx (E .no .no)) := set_of (call_of (a_two rfl rfl) cell)
  refine run_rt rfl (seq s1 (seqR (sifT (en := E .no .no) t1 (seq (en' := E (.dat (natD c)) (.dat (natD c))) (asg_of (call_of (a_cons rfl (a_two rfl rfl)) piece) rfl) (ret_of (dL_of ?_))))))
  show (aCons (dTup (aCons (dVar 4) (aCons (d2 gMulI (d2 gMulI (dC (.int 2)) (dVar 6)) (dVar 7)) aNil))) aNil (E (.dat (natD c)) (.dat (natD c)))).bind _ = _
  rw [a_one e2] <;> rfl
theorem fits1 {a : Nat} (h : 97 ≤ a ∧ a ≤ 122) : F_fits [patC (pt1 a), psD [rc1]] = some (.bl true) := fits_ok (wh1 h).tile (by decide) (wh1 h).pat (wh1 h).one
theorem needed1 {a : Nat} (h : 97 ≤ a ∧ a ≤ 122) {c : Nat} (h1 : 1 ≤ c) (hc : c ≤ 40) : F_fabric_needed [patC (pt1 a), psD [rc1], natD c, natD 0] = some (.lst [pairF (ltr a, 2 * (c : Int) * (c : Int))]) := by
  let E : Sl → En := fun s4 => [.dat (patC (pt1 a)), .dat (psD [rc1]), .dat (natD c), .dat (natD 0), s4, .no]
  have t : tNot1 (tBl (dCall F_fits (aCons (dVar 0) (aCons (dVar 1) aNil)))) [.dat (patC (pt1 a)), .dat (psD [rc1])] = some false := not_of (b := true) (bl_of (call_of (a_two rfl rfl) (fits1 h)))
  have cf : F_check_fit [patC (pt1 a), psD [rc1]] = some .non := run_nx rfl (sifF t rfl)
  have g1 : sDrop (dCall F_check_fit (aCons (dVar 0) (aCons (dVar 1) aNil))) (E .no) = some (.nx (E .no)) := by
    show (dCall F_check_fit (aCons (dVar 0) (aCons (dVar 1) aNil)) (E .no)).map _ = _
    rw [call_of (a_two rfl rfl) cf] <;> rfl
  have g2 : sSet 4 (dL (lLc (iAny (dVar 1)) (gSet 5) fYes (dCall F_areas_of_patch (aCons (dVar 0) (aCons (dVar 5) (aCons (dVar 2) (aCons (dVar 3) aNil))))) [5])) (E .no) = some (.nx (E (.dat (.lst [.lst [pairF (ltr a, 2 * (c : Int) * (c : Int))]])))) :=
    set_of (dL_of (lc_all [rc1] rcD (fun _ => .lst [pairF (ltr a, 2 * (c : Int) * (c : Int))]) rfl (by decide) fun r hr => ⟨_, rfl, by
      rw [List.mem_singleton.mp hr]
      exact call_of (a_cons rfl (a_cons rfl (a_two rfl rfl))) (areas1 h hc)⟩))
  refine run_rt rfl (seq g1 (seq g2 (ret_of ?_)))
  show (if ([D.lst [pairF (ltr a, 2 * (c : Int) * (c : Int))]] : List D).length ≤ lim then F_added_areas [.tup [.lst [pairF (ltr a, 2 * (c : Int) * (c : Int))]]] else none) = _
  rw [if_pos (show ([D.lst [pairF (ltr a, 2 * (c : Int) * (c : Int))]] : List D).length ≤ lim from Nat.le_of_ble_eq_true rfl)]
  refine added_00 ?_
  have : 1 ≤ c * c := Nat.mul_pos h1 h1
  have e : (2 * (c : Int) * (c : Int)) = ((2 * (c * c) : Nat) : Int) := by
    rw [Int.mul_assoc]
    simp
  omega
end G

namespace G
open PySem DD C L2
def ordD (a : Nat) (A : Int) (s : Str) : D := .tup [patC (pt1 a), psD [rc1], .lst [pairF (ltr a, A)], .str s]
def odS (a : Nat) (A : Int) (ss : List Str) : List D := ss.map (ordD a A)
section
variable {b : Int} {st od de : List D} {a : Nat} {c : Nat}
def Ac (c : Nat) : Int := 2 * (c : Int) * (c : Int)
theorem take_ok (h : 97 ≤ a ∧ a ≤ 122) (h1 : 1 ≤ c) (hc : c ≤ 40) {v : Int} (hv : 0 < v - Ac c) (ho : od.length < 60) (hl : de.length ≤ 1100) :
    F_Workroom_take (roomT b [pairF (ltr a, v)] od de) [patC (pt1 a), psD [rc1], natD c, natD 0] = some (natD (od.length + 1), roomT b [pairF (ltr a, v - Ac c)] (od ++ [ordD a (Ac c) "waiting"]) (de ++ [deedD "take" b [pairF (ltr a, v)] od])) := by
  let R := roomT b [pairF (ltr a, v)] od de
  let AR : D := .lst [pairF (ltr a, Ac c)]
  let ST : D := .lst [pairF (ltr a, v - Ac c)]
  let E : DD.Tr → Sl → Sl → En := fun r s5 s6 => [.par r, .dat (patC (pt1 a)), .dat (psD [rc1]), .dat (natD c), .dat (natD 0), s5, s6, .no, .no]
  have t1 : tNot1 (tBl (dCall F_fits (aCons (dVar 1) (aCons (dVar 2) aNil)))) (E R .no .no) = some false := not_of (b := true) (bl_of (call_of (a_two rfl rfl) (fits1 h)))
  have t2 : tBl (d2 gGe (dCB gLen (aCons (dFld 0 "Workroom" "_orders") aNil)) (dC k_ORDERS)) (E R .no .no) = some false := by
    show some (decide ((60 : Int) ≤ (od.length : Int))) = _
    rw [decide_eq_false (by omega)]
  have s5 : sSet 5 (dCall F_fabric_needed (aCons (dVar 1) (aCons (dVar 2) (aCons (dVar 3) (aCons (dVar 4) aNil))))) (E R .no .no) = some (.nx (E R (.dat AR) .no)) := set_of (call_of (a_cons rfl (a_cons rfl (a_two rfl rfl))) (needed1 h h1 hc))
  have ls : F_less [AR] = some (.lst [pairF (ltr a, -Ac c)]) := rfl
  have ad : F_added_areas [.tup [.lst [pairF (ltr a, v)], .lst [pairF (ltr a, -Ac c)]]] = some ST := by
    have := added_1 (f := ltr a) (v := v) (a := -Ac c) (by omega)
    rw [show v + -Ac c = v - Ac c from rfl] at this
    exact this
  have s6 : sSet 6 (dCallR F_added_areas (aCons (dFld 0 "Workroom" "_stock") (aCons (dCall F_less (aCons (dVar 5) aNil)) aNil))) (E R (.dat AR) .no) = some (.nx (E R (.dat AR) (.dat ST))) := set_of (callR_of (a_two rfl (call_of (a_one rfl) ls)) ad)
  have t3 : tBl (dCB gAny (aCons (dL (lLc (iAny (dVar 6)) (gTupD (gsCons (gSet 7) (gsCons (gSet 8) gsNil)) 2) fYes (d2 gLt (dVar 8) (dC (.int 0))) [7, 8])) aNil)) (E R (.dat AR) (.dat ST)) = some false := by
    have e : lLc (iAny (dVar 6)) (gTupD (gsCons (gSet 7) (gsCons (gSet 8) gsNil)) 2) fYes (d2 gLt (dVar 8) (dC (.int 0))) [7, 8] (E R (.dat AR) (.dat ST)) = some [.bl (decide (v - Ac c < 0))] := rfl
    refine bl_of (cb_of (a_one (dL_of e)) ?_)
    show some (D.bl ((decide (v - Ac c < 0)) || false)) = _
    rw [decide_eq_false (by omega)] <;> rfl
  have s8 : sSetF 0 "Workroom" "_stock" (fun en => ((dVar 6) en).map DD.Tr.lf) (E (roomT b [pairF (ltr a, v)] od (de ++ [deedD "take" b [pairF (ltr a, v)] od])) (.dat AR) (.dat ST)) = some (.nx (E (roomT b [pairF (ltr a, v - Ac c)] od (de ++ [deedD "take" b [pairF (ltr a, v)] od])) (.dat AR) (.dat ST))) := rfl
  have s9 : sSetF 0 "Workroom" "_orders" (fun en => ((d2 gAddB (dFld 0 "Workroom" "_orders") (dL (lLst (aCons (dTup (aCons (dVar 1) (aCons (dVar 2) (aCons (dVar 5) (aCons (dC k_WAITING) aNil))))) aNil)))) en).map DD.Tr.lf) (E (roomT b [pairF (ltr a, v - Ac c)] od (de ++ [deedD "take" b [pairF (ltr a, v)] od])) (.dat AR) (.dat ST)) = some (.nx (E (roomT b [pairF (ltr a, v - Ac c)] (od ++ [ordD a (Ac c) "waiting"]) (de ++ [deedD "take" b [pairF (ltr a, v)] od])) (.dat AR) (.dat ST))) := by
    show Option.bind (Option.map DD.Tr.lf (gAddB (.lst od) (.lst [ordD a (Ac c) "waiting"]))) _ = _
    have e : gAddB (.lst od) (.lst [ordD a (Ac c) "waiting"]) = some (.lst (od ++ [ordD a (Ac c) "waiting"])) := by
      show Option.or (Option.or none (if od.length + 1 ≤ lim then some (D.lst (od ++ [ordD a (Ac c) "waiting"])) else none)) _ = _
      rw [if_pos (lim_of (by omega))] <;> rfl
    rw [e] <;> rfl
  have s10 : sRetK (dCB gLen (aCons (dFld 0 "Workroom" "_orders") aNil)) (E (roomT b [pairF (ltr a, v - Ac c)] (od ++ [ordD a (Ac c) "waiting"]) (de ++ [deedD "take" b [pairF (ltr a, v)] od])) (.dat AR) (.dat ST)) = some (.rm (.lf (natD (od.length + 1))) (E (roomT b [pairF (ltr a, v - Ac c)] (od ++ [ordD a (Ac c) "waiting"]) (de ++ [deedD "take" b [pairF (ltr a, v)] od])) (.dat AR) (.dat ST))) := by
    show some (Out.rm (.lf (.int ((od ++ [ordD a (Ac c) "waiting"]).length : Int))) _) = _
    rw [List.length_append] <;> rfl
  have g : g_Workroom_take (E R .no .no) = some (.rm (.lf (natD (od.length + 1))) (E (roomT b [pairF (ltr a, v - Ac c)] (od ++ [ordD a (Ac c) "waiting"]) (de ++ [deedD "take" b [pairF (ltr a, v)] od])) (.dat AR) (.dat ST))) :=
    seq (sifF t1 rfl) (seq (sifF t2 rfl) (seq s5 (seq s6 (seq (sifF t3 rfl) (seq (keep_st "take" hl _) (seq s8 (seq s9 s10)))))))
  show (g_Workroom_take (E R .no .no)).bind _ = _
  rw [g] <;> rfl
theorem take_no (h : 97 ≤ a ∧ a ≤ 122) {x y : D} (ho : 60 ≤ od.length) : F_Workroom_take (roomT b st od de) [patC (pt1 a), psD [rc1], x, y] = some (excD "WorkroomError" ["what"] [.str "too many orders"], roomT b st od de) := by
  let R := roomT b st od de
  let E : En := [.par R, .dat (patC (pt1 a)), .dat (psD [rc1]), .dat x, .dat y, .no, .no, .no, .no]
  have t1 : tNot1 (tBl (dCall F_fits (aCons (dVar 1) (aCons (dVar 2) aNil)))) E = some false := not_of (b := true) (bl_of (call_of (a_two rfl rfl) (fits1 h)))
  have t2 : tBl (d2 gGe (dCB gLen (aCons (dFld 0 "Workroom" "_orders") aNil)) (dC k_ORDERS)) E = some true := by
    show some (decide ((60 : Int) ≤ (od.length : Int))) = _
    rw [decide_eq_true (by omega)]
  have g : g_Workroom_take E = some (.rm (.lf (excD "WorkroomError" ["what"] [.str "too many orders"])) E) := seq (sifF t1 rfl) (seqM (sifT t2 rfl))
  show (g_Workroom_take E).bind _ = _
  rw [g] <;> rfl
theorem at_last {x : D} : atI (od ++ [x]) ((od.length + 1 : Nat) - 1 : Int) = some x := by
  have e : ((od.length + 1 : Nat) - 1 : Int) = ((od.length : Nat) : Int) := by omega
  rw [e]
  rw [atI_at, List.getElem?_append_right (Nat.le_refl _), Nat.sub_self] <;> rfl
theorem at_last' {x : D} : gIx (.lst (od ++ [x])) (.int (((od.length + 1 : Nat) : Int) - 1)) = some x := at_last
theorem ne_cl {x y : D} {c : Bool} (h1 : deep 60 x = true) (h2 : deep 60 y = true) (h : (!PyData.eqv (py x) (py y)) = c) : gNe x y = some (.bl c) := by
  rw [← h]
  exact if_pos ⟨h1, h2⟩
theorem eq_cl {x y : D} {c : Bool} (h1 : deep 60 x = true) (h2 : deep 60 y = true) (h : PyData.eqv (py x) (py y) = c) : gEq x y = some (.bl c) := by
  rw [← h]
  exact if_pos ⟨h1, h2⟩
theorem ne_wc : gNe (.str "waiting") k_CANCELED = some (.bl true) := ne_cl (by decide +kernel) (by decide +kernel) (by decide +kernel)
theorem eq_ws : gEq (.str "waiting") k_STARTED = some (.bl false) := eq_cl (by decide +kernel) (by decide +kernel) (by decide +kernel)
theorem contains_last {A : Int} : F_Workroom___contains__ (roomT b st (od ++ [ordD a A "waiting"]) de) [natD (od.length + 1)] = some (.bl true) := by
  let R := roomT b st (od ++ [ordD a A "waiting"]) de
  let E : En := [.ro R, .dat (natD (od.length + 1))]
  have t1 : tOr2 (tNot1 (tBl (dIsO "int" (dVar 1)))) (tBl (dIsB (dVar 1))) E = some false := rfl
  have e1 : dChain gLe gLe (dC (.int 1)) (dVar 1) (dCB gLen (aCons (dFld 0 "Workroom" "_orders") aNil)) E = some (.bl true) := by
    show (match (some (D.bl (decide ((1 : Int) ≤ ((od.length + 1 : Nat) : Int)))) : Option D) with
      | some (.bl k) => if k = true then some (D.bl (decide (((od.length + 1 : Nat) : Int) ≤ ((od ++ [ordD a A "waiting"]).length : Int)))) else some (.bl false)
      | _ => none) = _
    rw [decide_eq_true (by omega), List.length_append]
    show some (D.bl (decide (((od.length + 1 : Nat) : Int) ≤ ((od.length + 1 : Nat) : Int)))) = _
    rw [decide_eq_true (by omega)]
  have e2 : d2 gIx (d2 gIx (dFld 0 "Workroom" "_orders") (d2 gSub (dVar 1) (dC (.int 1)))) (dC (.int 3)) E = some (.str "waiting") := d2_of (x := ordD a A "waiting") (d2_of (x := .lst (od ++ [ordD a A "waiting"])) (y := .int (((od.length + 1 : Nat) : Int) - 1)) rfl rfl at_last') rfl rfl
  have e3 : dAnd2 (dChain gLe gLe (dC (.int 1)) (dVar 1) (dCB gLen (aCons (dFld 0 "Workroom" "_orders") aNil))) (d2 gNe (d2 gIx (d2 gIx (dFld 0 "Workroom" "_orders") (d2 gSub (dVar 1) (dC (.int 1)))) (dC (.int 3))) (dC k_CANCELED)) E = some (.bl true) := by
    show (tBl (dChain gLe gLe (dC (.int 1)) (dVar 1) (dCB gLen (aCons (dFld 0 "Workroom" "_orders") aNil))) E).bind _ = _
    rw [bl_of e1]
    exact d2_of e2 rfl ne_wc
  have g : g_Workroom___contains__ E = some (.rt (.bl true)) := seq (sifF t1 rfl) (ret_of e3)
  show (g_Workroom___contains__ E).bind _ = _
  rw [g] <;> rfl
theorem waiting_last {A : Int} : F_Workroom__check_waiting (roomT b st (od ++ [ordD a A "waiting"]) de) [natD (od.length + 1)] = some .non := by
  let R := roomT b st (od ++ [ordD a A "waiting"]) de
  let E : En := [.ro R, .dat (natD (od.length + 1))]
  have t1 : tBl (dInO true 0 "Workroom" F_Workroom___contains__ (dVar 1)) E = some false := by
    have e : dInO true 0 "Workroom" F_Workroom___contains__ (dVar 1) E = some (.bl false) := by
      show (match F_Workroom___contains__ R [natD (od.length + 1)] with
        | some (.bl c) => some (D.bl (if true = true then !c else c))
        | _ => none) = _
      rw [contains_last] <;> rfl
    exact bl_of e
  have e2 : d2 gIx (d2 gIx (dFld 0 "Workroom" "_orders") (d2 gSub (dVar 1) (dC (.int 1)))) (dC (.int 3)) E = some (.str "waiting") := d2_of (x := ordD a A "waiting") (d2_of (x := .lst (od ++ [ordD a A "waiting"])) (y := .int (((od.length + 1 : Nat) : Int) - 1)) rfl rfl at_last') rfl rfl
  have t2 : tBl (d2 gEq (d2 gIx (d2 gIx (dFld 0 "Workroom" "_orders") (d2 gSub (dVar 1) (dC (.int 1)))) (dC (.int 3))) (dC k_STARTED)) E = some false := bl_of (d2_of e2 rfl eq_ws)
  have g : g_Workroom__check_waiting E = some (.nx E) := seq (sifF t1 rfl) (sifF t2 rfl)
  show (g_Workroom__check_waiting E).bind _ = _
  rw [g] <;> rfl
theorem cut_toT {α : Type} (f : α → D) (ps : List α) (k : Nat) : cutD (ps.map f) none (some (k : Int)) = (ps.take k).map f := by
  unfold cutD
  rw [HT.sIx_none, HT.sIx_nat, List.drop_zero, Nat.sub_zero, List.length_map, ← List.map_take]
  by_cases h : k ≤ ps.length
  · rw [Nat.min_eq_left h]
  · rw [Nat.min_eq_right (by omega), List.take_length, List.take_of_length_le (by omega)]
theorem cut_fromT {α : Type} (f : α → D) (ps : List α) (k : Nat) : cutD (ps.map f) (some (k : Int)) none = (ps.drop k).map f := by
  unfold cutD
  rw [HT.sIx_none, HT.sIx_nat, List.length_map, ← List.map_drop, ← List.map_take]
  by_cases h : k ≤ ps.length
  · rw [Nat.min_eq_left h, List.take_of_length_le (by rw [List.length_drop]; omega)]
  · rw [Nat.min_eq_right (by omega), Nat.sub_self, List.take_zero, List.drop_eq_nil_of_le (by omega)]
theorem cut_init {x : D} : cutD (od ++ [x]) none (some (((od.length + 1 : Nat) : Int) - 1)) = od := by
  have e : (((od.length + 1 : Nat) : Int) - 1) = ((od.length : Nat) : Int) := by omega
  have := cut_toT (fun d : D => d) (od ++ [x]) od.length
  rw [List.map_id', List.map_id', List.take_left' rfl] at this
  rw [e]
  exact this
theorem cut_end {x : D} : cutD (od ++ [x]) (some ((od.length + 1 : Nat) : Int)) none = [] := by
  have := cut_fromT (fun d : D => d) (od ++ [x]) (od.length + 1)
  rw [List.map_id', List.map_id', List.drop_of_length_le (by rw [List.length_append] <;> exact Nat.le_refl _)] at this
  exact this
theorem cat_ll {xs ys : List D} (h : xs.length + ys.length ≤ 1000) : gAddB (.lst xs) (.lst ys) = some (.lst (xs ++ ys)) := by
  show Option.or (Option.or none (if xs.length + ys.length ≤ lim then some (D.lst (xs ++ ys)) else none)) _ = _
  rw [if_pos (lim_of h)] <;> rfl
theorem state_last {A : Int} {s : Str} (ho : od.length < 60) : F_with_state [.lst (od ++ [ordD a A "waiting"]), natD (od.length + 1), .str s] = some (.lst (od ++ [ordD a A s])) := by
  let O : List D := od ++ [ordD a A "waiting"]
  let E : En := [.dat (.lst O), .dat (natD (od.length + 1)), .dat (.str s), .dat (patC (pt1 a)), .dat (psD [rc1]), .dat (.lst [pairF (ltr a, A)]), .dat (.str "waiting")]
  have g1 : sAsgG (d2 gIx (dVar 0) (d2 gSub (dVar 1) (dC (.int 1)))) (gTupD (gsCons (gSet 3) (gsCons (gSet 4) (gsCons (gSet 5) (gsCons (gSet 6) gsNil)))) 4) [.dat (.lst O), .dat (natD (od.length + 1)), .dat (.str s), .no, .no, .no, .no] = some (.nx E) :=
    asg_of (d := ordD a A "waiting") (d2_of (x := .lst O) (y := .int (((od.length + 1 : Nat) : Int) - 1)) rfl rfl at_last') rfl
  have e1 : dCutA (dVar 0) oNo (oInt (d2 gSub (dVar 1) (dC (.int 1)))) E = some (.lst od) := by
    show some (D.lst (cutD O none (some (((od.length + 1 : Nat) : Int) - 1)))) = _
    rw [cut_init]
  have e2 : dCutA (dVar 0) (oInt (dVar 1)) oNo E = some (.lst []) := by
    show some (D.lst (cutD O (some ((od.length + 1 : Nat) : Int)) none)) = _
    rw [cut_end]
  have e3 : d2 gAddB (dCutA (dVar 0) oNo (oInt (d2 gSub (dVar 1) (dC (.int 1))))) (dL (lLst (aCons (dTup (aCons (dVar 3) (aCons (dVar 4) (aCons (dVar 5) (aCons (dVar 2) aNil))))) aNil))) E = some (.lst (od ++ [ordD a A s])) := d2_of e1 rfl (cat_ll (by show od.length + 1 ≤ 1000; omega))
  have e4 := d2_of (o := gAddB) e3 e2 (cat_ll (ys := []) (by rw [List.length_append]; show od.length + 1 + 0 ≤ 1000; omega))
  rw [List.append_nil] at e4
  exact run_rt rfl (seq g1 (ret_of e4))
theorem xk_ok {k : D → En → Option Out} {fd : En → Option D} {en : En} {o : Option Out} (h : fd en = some .non) (hk : k .non en = o) : sXK fd k en = o := by
  show (fd en).bind _ = _
  rw [h]
  exact hk
theorem check_st {A : Int} (r : En) (h1 : (Sl.par (roomT b st (od ++ [ordD a A "waiting"]) de) :: .dat (natD (od.length + 1)) :: r)[1]? = some (.dat (natD (od.length + 1)))) : sXK (dMethR 0 "Workroom" "_check_waiting" F_Workroom__check_waiting (aCons (dVar 1) aNil)) (fun _ en => some (.nx en)) (.par (roomT b st (od ++ [ordD a A "waiting"]) de) :: .dat (natD (od.length + 1)) :: r) = some (.nx (.par (roomT b st (od ++ [ordD a A "waiting"]) de) :: .dat (natD (od.length + 1)) :: r)) := by
  refine xk_ok ?_ rfl
  show F_Workroom__check_waiting (roomT b st (od ++ [ordD a A "waiting"]) de) [natD (od.length + 1)] = _
  exact waiting_last
theorem cancel_ok {v A : Int} (hv : v + A ≠ 0) (ho : od.length < 60) (hl : de.length ≤ 1100) :
    F_Workroom_cancel (roomT b [pairF (ltr a, v)] (od ++ [ordD a A "waiting"]) de) [natD (od.length + 1)] = some (.lst [pairF (ltr a, A)], roomT b [pairF (ltr a, v + A)] (od ++ [ordD a A "canceled"]) (de ++ [deedD "cancel" b [pairF (ltr a, v)] (od ++ [ordD a A "waiting"])])) := by
  let O : List D := od ++ [ordD a A "waiting"]
  let AR : D := .lst [pairF (ltr a, A)]
  let D1 : List D := de ++ [deedD "cancel" b [pairF (ltr a, v)] O]
  let E : DD.Tr → Sl → En := fun r s2 => [.par r, .dat (natD (od.length + 1)), s2]
  let R := roomT b [pairF (ltr a, v)] O de
  have s2 : sSet 2 (d2 gIx (d2 gIx (dFld 0 "Workroom" "_orders") (d2 gSub (dVar 1) (dC (.int 1)))) (dC (.int 2))) (E R .no) = some (.nx (E R (.dat AR))) := set_of (d2_of (x := ordD a A "waiting") (d2_of (x := .lst O) (y := .int (((od.length + 1 : Nat) : Int) - 1)) rfl rfl at_last') rfl rfl)
  have s4 : sSetF 0 "Workroom" "_stock" (fun en => ((dCallR F_added_areas (aCons (dFld 0 "Workroom" "_stock") (aCons (dVar 2) aNil))) en).map DD.Tr.lf) (E (roomT b [pairF (ltr a, v)] O D1) (.dat AR)) = some (.nx (E (roomT b [pairF (ltr a, v + A)] O D1) (.dat AR))) := by
    have e : dCallR F_added_areas (aCons (dFld 0 "Workroom" "_stock") (aCons (dVar 2) aNil)) (E (roomT b [pairF (ltr a, v)] O D1) (.dat AR)) = some (.lst [pairF (ltr a, v + A)]) := callR_of (a_two rfl rfl) (added_1 hv)
    show Option.bind (Option.map DD.Tr.lf (dCallR F_added_areas (aCons (dFld 0 "Workroom" "_stock") (aCons (dVar 2) aNil)) (E (roomT b [pairF (ltr a, v)] O D1) (.dat AR)))) _ = _
    rw [e] <;> rfl
  have s5 : sSetF 0 "Workroom" "_orders" (fun en => ((dCall F_with_state (aCons (dFld 0 "Workroom" "_orders") (aCons (dVar 1) (aCons (dC k_CANCELED) aNil)))) en).map DD.Tr.lf) (E (roomT b [pairF (ltr a, v + A)] O D1) (.dat AR)) = some (.nx (E (roomT b [pairF (ltr a, v + A)] (od ++ [ordD a A "canceled"]) D1) (.dat AR))) := by
    have e : dCall F_with_state (aCons (dFld 0 "Workroom" "_orders") (aCons (dVar 1) (aCons (dC k_CANCELED) aNil))) (E (roomT b [pairF (ltr a, v + A)] O D1) (.dat AR)) = some (.lst (od ++ [ordD a A "canceled"])) := call_of (a_cons rfl (a_two rfl rfl)) (state_last ho)
    show Option.bind (Option.map DD.Tr.lf (dCall F_with_state (aCons (dFld 0 "Workroom" "_orders") (aCons (dVar 1) (aCons (dC k_CANCELED) aNil))) (E (roomT b [pairF (ltr a, v + A)] O D1) (.dat AR)))) _ = _
    rw [e] <;> rfl
  have g : g_Workroom_cancel (E R .no) = some (.rm (.lf AR) (E (roomT b [pairF (ltr a, v + A)] (od ++ [ordD a A "canceled"]) D1) (.dat AR))) :=
    seq (check_st _ rfl) (seq s2 (seq (keep_st "cancel" hl _) (seq s4 (seq s5 rfl))))
  show (g_Workroom_cancel (E R .no)).bind _ = _
  rw [g] <;> rfl
theorem start_ok {A : Int} (h : 97 ≤ a ∧ a ≤ 122) (ho : od.length < 60) (hl : de.length ≤ 1100) :
    F_Workroom_start (roomT b st (od ++ [ordD a A "waiting"]) de) [natD (od.length + 1)] = some (.non, roomT b st (od ++ [ordD a A "started"]) (de ++ [deedD "start" b st (od ++ [ordD a A "waiting"])])) := by
  let O : List D := od ++ [ordD a A "waiting"]
  let D1 : List D := de ++ [deedD "start" b st O]
  let E : DD.Tr → Sl → Sl → Sl → En := fun r s2 s3 s4 => [.par r, .dat (natD (od.length + 1)), s2, s3, s4]
  let R := roomT b st O de
  let P2 : Sl := .dat (patC (pt1 a))
  let P3 : Sl := .dat (psD [rc1])
  let P4 : Sl := .dat (.str "waiting")
  have s2 : sAsgG (d2 gIx (dFld 0 "Workroom" "_orders") (d2 gSub (dVar 1) (dC (.int 1)))) (gTupD (gsCons (gSet 2) (gsCons (gSet 3) (gsCons (gSet 4) (gsCons (gSet 4) gsNil)))) 4) (E R .no .no .no) = some (.nx (E R P2 P3 P4)) :=
    asg_of (d := ordD a A "waiting") (d2_of (x := .lst O) (y := .int (((od.length + 1 : Nat) : Int) - 1)) rfl rfl at_last') rfl
  have s5 : sSetF 0 "Workroom" "_orders" (fun en => ((dCall F_with_state (aCons (dFld 0 "Workroom" "_orders") (aCons (dVar 1) (aCons (dC k_STARTED) aNil)))) en).map DD.Tr.lf) (E (roomT b st O D1) P2 P3 P4) = some (.nx (E (roomT b st (od ++ [ordD a A "started"]) D1) P2 P3 P4)) := by
    have e : dCall F_with_state (aCons (dFld 0 "Workroom" "_orders") (aCons (dVar 1) (aCons (dC k_STARTED) aNil))) (E (roomT b st O D1) P2 P3 P4) = some (.lst (od ++ [ordD a A "started"])) := call_of (a_cons rfl (a_two rfl rfl)) (state_last ho)
    show Option.bind (Option.map DD.Tr.lf (dCall F_with_state (aCons (dFld 0 "Workroom" "_orders") (aCons (dVar 1) (aCons (dC k_STARTED) aNil))) (E (roomT b st O D1) P2 P3 P4))) _ = _
    rw [e] <;> rfl
  have nw : newM "Assembly" F_Assembly___init__ (aCons (dVar 2) (aCons (dVar 3) aNil)) (E (roomT b st (od ++ [ordD a A "started"]) D1) P2 P3 P4) = some (asO (pt1 a) [rc1] (stS [rc1]) []) := by
    have e := init_ok (wh1 h) (show [rc1].length ≤ 200 by decide)
    have ar : aCons (dVar 2) (aCons (dVar 3) aNil) (E (roomT b st (od ++ [ordD a A "started"]) D1) P2 P3 P4) = some [patC (pt1 a), psD [rc1]] := a_two rfl rfl
    unfold newM
    rw [ar, Option.bind_some, e] <;> rfl
  have s6 : sRetNew (newM "Assembly" F_Assembly___init__ (aCons (dVar 2) (aCons (dVar 3) aNil))) (E (roomT b st (od ++ [ordD a A "started"]) D1) P2 P3 P4) = some (.rm (asO (pt1 a) [rc1] (stS [rc1]) []) (E (roomT b st (od ++ [ordD a A "started"]) D1) P2 P3 P4)) := by
    show (newM "Assembly" F_Assembly___init__ (aCons (dVar 2) (aCons (dVar 3) aNil)) (E (roomT b st (od ++ [ordD a A "started"]) D1) P2 P3 P4)).map _ = _
    rw [nw] <;> rfl
  have g : g_Workroom_start (E R .no .no .no) = some (.rm (asO (pt1 a) [rc1] (stS [rc1]) []) (E (roomT b st (od ++ [ordD a A "started"]) D1) P2 P3 P4)) :=
    seq (check_st _ rfl) (seq s2 (seq (keep_st "start" hl _) (seq s5 s6)))
  show (g_Workroom_start (E R .no .no .no)).bind _ = _
  rw [g] <;> rfl
theorem lfs_map : ∀ ds : List D, lfs (ds.map DD.Tr.lf) = some ds
  | [] => rfl
  | d :: ds => by
    show (lfs (ds.map DD.Tr.lf)).map _ = _
    rw [lfs_map ds] <;> rfl
theorem undo_ok {x : Str} {b' : Int} {st' od' : List D} : F_Workroom_undo (roomT b st od (de ++ [deedD x b' st' od'])) [] = some (.str x, roomT b' st' od' de) := by
  let R := roomT b st od (de ++ [deedD x b' st' od'])
  have t1 : tNot1 (tScalF 0 "Workroom" "_deeds" (tTr (dFld 0 "Workroom" "_deeds"))) [.par R, .no] = some false := by
    refine not_of (b := true) ?_
    let T : DD.Tr := .ob "Workroom" ["_bought", "_stock", "_orders", "_deeds"] [.lf (.int b), .lf (.lst st), .lf (.lst od), .lf (.lst (de ++ [deedD x b' st' od']))]
    have th : thawF 0 "Workroom" "_deeds" [.par R, .no] = some [.ro T, .no] := by
      show (((DD.Tr.d (.ls ((de ++ [deedD x b' st' od']).map DD.Tr.lf)))).map _ : Option En) = _
      rw [DD.Tr.d, dAll_lfs] <;> rfl
    show (thawF 0 "Workroom" "_deeds" [.par R, .no]).bind _ = _
    rw [th]
    show some (!(de ++ [deedD x b' st' od']).isEmpty) = _
    cases de <;> rfl
  have s2 : sPopF4 0 1 "Workroom" "_deeds" "_bought" "_stock" "_orders" [.par R, .no] = some (.nx [.par (roomT b' st' od' de), .dat (.str x)]) := by
    show ((lfs ((de ++ [deedD x b' st' od']).map DD.Tr.lf)).bind _ : Option Out) = _
    rw [lfs_map]
    have e : (de ++ [deedD x b' st' od'])[(de ++ [deedD x b' st' od']).length - 1]? = some (deedD x b' st' od') := by
      rw [List.length_append, List.length_singleton, Nat.add_sub_cancel, List.getElem?_append_right (Nat.le_refl _), Nat.sub_self] <;> rfl
    rw [Option.bind_some, e]
    show some (Out.nx [.par (.ob "Workroom" ["_bought", "_stock", "_orders", "_deeds"] [.lf (.int b'), .lf (.lst st'), .lf (.lst od'), .ls ((de ++ [deedD x b' st' od']).dropLast.map DD.Tr.lf)]), .dat (.str x)]) = _
    rw [List.dropLast_concat] <;> rfl
  have g : g_Workroom_undo [.par R, .no] = some (.rm (.lf (.str x)) [.par (roomT b' st' od' de), .dat (.str x)]) := seq (sifF t1 rfl) (seq s2 rfl)
  show (g_Workroom_undo [.par R, .no]).bind _ = _
  rw [g] <;> rfl
end
end G

namespace G
open PySem DD C L2
abbrev pA0 : En → Option Out := (sFor (iR1 (aCons (dC (.int 999)) aNil)) (gSet 4) (sDropM (callMV 2 "Workroom" "buy" F_Workroom_buy (aCons (dVar 3) (aCons (dC (.int 1000000)) aNil)))))
abbrev pA1 : En → Option Out := (sSet 5 (d2 gAdd (dC (.int 999998)) (d2 gMod (d2 gIx (dVar 1) (dC (.int 1))) (dC (.int 3)))))
abbrev pA2 : En → Option Out := (sIfV (tvCmp gNe (callP 2 F__law_do (aCons (dC (.int 0)) (aCons (dTup (aCons (dVar 3) (aCons (dVar 5) aNil))) aNil))) (d2 gAdd (dC (.int 999000000)) (dVar 5))) (sRet (dC (.bl false))) sNil)
abbrev pA3 : En → Option Out := (sSet 6 (d2 gSub (dC (.int 1000000000)) (d2 gIx (dProp 2 "Workroom" F_Workroom_totals) (dC (.int 0)))))
abbrev pA4 : En → Option Out := (sFor (iAny (dL (lLst (aCons (d2 gAdd (dVar 6) (dC (.int 1))) (aCons (d2 gAdd (dVar 6) (dC (.int 2))) aNil))))) (gSet 7) (sIfV (tvCmp gNe (callP 2 F__law_do (aCons (dC (.int 0)) (aCons (dTup (aCons (dVar 3) (aCons (dVar 7) aNil))) aNil))) (dTup (aCons (dC (.str "refused")) (aCons (dC (.str "too much")) aNil)))) (sRet (dC (.bl false))) sNil))
abbrev pA5 : En → Option Out := (sIfV (tvAnd (tvOf (tBl (d2 gGt (dVar 6) (dC (.int 0))))) (tvCmp gNe (callP 2 F__law_do (aCons (dC (.int 0)) (aCons (dTup (aCons (dVar 3) (aCons (dVar 6) aNil))) aNil))) (dC (.int 1000000000)))) (sRet (dC (.bl false))) sNil)
abbrev pA6 : En → Option Out := (sSet 8 (d2 gIx (dC (.str "abcdefghijklmnopqrstuvwxyz")) (d2 gMod (d2 gAdd (d2 gIx (dVar 1) (dC (.int 2))) (dC (.int 1))) (dC (.int 26)))))
abbrev pA7 : En → Option Out := (sRetV (vCmp gEq (callP 2 F__law_do (aCons (dC (.int 0)) (aCons (dTup (aCons (dVar 8) (aCons (dC (.int 1)) aNil))) aNil))) (dC (.int 1))))
abbrev pB0 : En → Option Out := (sDropM (callMV 2 "Workroom" "buy" F_Workroom_buy (aCons (dVar 3) (aCons (dC (.int 1000000)) aNil))))
abbrev pB1 : En → Option Out := (sFor (iR1 (aCons (dC (.int 60)) aNil)) (gSet 4) (sSeq (sIfV (tvCmp gNe (callMV 2 "Workroom" "take" F_Workroom_take (aCons (dTup (aCons (dTup (aCons (dVar 3) aNil)) aNil)) (aCons (dTup (aCons (dTup (aCons (dC (.int 0)) (aCons (dC (.int 0)) (aCons (dC (.int 1)) (aCons (dC (.int 1)) aNil))))) aNil)) (aCons (d2 gAdd (dC (.int 1)) (d2 gIx (dVar 1) (dC (.int 1)))) (aCons (dC (.int 0)) aNil))))) (d2 gAdd (dVar 4) (dC (.int 1)))) (sRet (dC (.bl false))) sNil) (sIf (tBl (d2 gEq (d2 gAdd (dVar 4) (dC (.int 1))) (d2 gIx (dVar 1) (dC (.int 3))))) (sDropM (callMV 2 "Workroom" "cancel" F_Workroom_cancel (aCons (d2 gAdd (dVar 4) (dC (.int 1))) aNil))) (sIf (tBl (d2 gEq (d2 gAdd (dVar 4) (dC (.int 1))) (d2 gIx (dVar 1) (dC (.int 4))))) (sDropM (callMV 2 "Workroom" "start" F_Workroom_start (aCons (d2 gAdd (dVar 4) (dC (.int 1))) aNil))) sNil))))
abbrev pB2 : En → Option Out := (sIfV (tvCmp gNe (callP 2 F__law_do (aCons (dC (.int 1)) (aCons (dTup (aCons (dTup (aCons (dTup (aCons (dVar 3) aNil)) aNil)) (aCons (dTup (aCons (dTup (aCons (dC (.int 0)) (aCons (dC (.int 0)) (aCons (dC (.int 1)) (aCons (dC (.int 1)) aNil))))) aNil)) (aCons (dC (.int 1)) (aCons (dC (.int 0)) aNil))))) aNil))) (dTup (aCons (dC (.str "refused")) (aCons (dC (.str "too many orders")) aNil)))) (sRet (dC (.bl false))) sNil)
abbrev pB3 : En → Option Out := (sRetV (vAnd (vCmp gInL (callMV 2 "Workroom" "undo" F_Workroom_undo aNil) (dL (lLst (aCons (dC (.str "take")) (aCons (dC (.str "cancel")) (aCons (dC (.str "start")) aNil)))))) (d2 gGe (dCB gLen (aCons (dProp 2 "Workroom" F_Workroom_orders) aNil)) (dC (.int 58)))))
def gA : En → Option Out := (sSeq pA0 (sSeq pA1 (sSeq pA2 (sSeq pA3 (sSeq pA4 (sSeq pA5 (sSeq pA6 pA7)))))))
def gB : En → Option Out := (sSeq pB0 (sSeq pB1 (sSeq pB2 pB3)))

theorem cmv {F : DD.Tr → List D → Option (D × DD.Tr)} {fr : En → Option (List D)} {i : Nat} {C m : Str} {en : En} {ds : List D} {t t' : DD.Tr} {d : D} (h1 : fr en = some ds) (h2 : en[i]? = some (.tre t)) (h3 : obM C m t = true) (h4 : F t ds = some (d, t')) (h5 : excOf d = none) : callMV i C m F fr en = some (d, en.set i (.tre t')) := by
  have e : callM i C m F fr en = some (d, en.set i (.tre t')) := by
    unfold callM
    rw [h1, Option.bind_some, h2, Option.bind_some]
    show (if obM C m t = true then (F t ds).map fun q => (q.1, en.set i (.tre q.2)) else none) = _
    rw [if_pos h3, h4] <;> rfl
  unfold callMV
  rw [e, Option.bind_some]
  simp only [h5]
theorem dropM_of {f : En → Option (D × En)} {en en' : En} {d : D} (h : f en = some (d, en')) : sDropM f en = some (.nx en') := by
  show (f en).map _ = _
  rw [h] <;> rfl
theorem callP_of {F : DD.Tr → List D → Option (D × DD.Tr)} {fr : En → Option (List D)} {i : Nat} {en : En} {ds : List D} {t t' : DD.Tr} {d : D} (h1 : fr en = some ds) (h2 : en[i]? = some (.tre t)) (h4 : F t ds = some (d, t')) : callP i F fr en = some (d, en.set i (.tre t')) := by
  unfold callP
  rw [h1, Option.bind_some, h2, Option.bind_some]
  show (F t ds).map (fun q => (q.1, en.set i (.tre q.2))) = _
  rw [h4] <;> rfl
theorem tvCmp_of {g : D → D → Option D} {fa : En → Option (D × En)} {fb : En → Option D} {en en' : En} {x y : D} {c : Bool} (h1 : fa en = some (x, en')) (h2 : fb en' = some y) (h3 : g x y = some (.bl c)) : tvCmp g fa fb en = some (c, en') := by
  unfold tvCmp
  rw [h1, Option.bind_some, h2, Option.bind_some, h3] <;> rfl
theorem vCmp_of {g : D → D → Option D} {fa : En → Option (D × En)} {fb : En → Option D} {en en' : En} {x y d : D} (h1 : fa en = some (x, en')) (h2 : fb en' = some y) (h3 : g x y = some d) : vCmp g fa fb en = some (d, en') := by
  unfold vCmp
  rw [h1, Option.bind_some, h2, Option.bind_some, h3] <;> rfl
theorem sifvF {ft : En → Option (Bool × En)} {g h : En → Option Out} {en en2 : En} {o : Option Out} (h1 : ft en = some (false, en2)) (h2 : h en2 = o) : sIfV ft g h en = o := by
  unfold sIfV
  rw [h1, Option.bind_some, if_neg Bool.false_ne_true]
  exact h2
section
variable {R R' : DD.Tr} {x : D} {f : Str}
abbrev bBuy : En → Option (D × En) := callM 0 "Workroom" "buy" F_Workroom_buy (aCons (d2 gIx (dVar 2) (dC (.int 0))) (aCons (d2 gIx (dVar 2) (dC (.int 1))) aNil))
abbrev bTake : En → Option (D × En) := callM 0 "Workroom" "take" F_Workroom_take (aCons (d2 gIx (dVar 2) (dC (.int 0))) (aCons (d2 gIx (dVar 2) (dC (.int 1))) (aCons (d2 gIx (dVar 2) (dC (.int 2))) (aCons (d2 gIx (dVar 2) (dC (.int 3))) aNil))))
def bAll : En → Option Out := bIf (tBl (d2 gEq (dVar 1) (dC (.int 0)))) (bRet bBuy) (bIf (tBl (d2 gEq (dVar 1) (dC (.int 1)))) (bRet bTake) (fun _ => none))
def hAll : List D → En → Option Out := fun fs => (sHifK (tOr2 (tNot1 (tBl (dC (.bl true)))) (tOr2 (tBl (dC (.bl false))) (tBl (dC (.bl false))))) (sRetK (dC .non)) (sRetK (dTup (aCons (dC (.str "refused")) (aCons (fun _ => fs[0]?) aNil)))))
theorem do_of {k : Int} {A d : D} (hb : bAll [.par R, .dat (.int k), .dat A, .no, .no] = some (.rm (.lf d) [.par R', .dat (.int k), .dat A, .no, .no])) :
    F__law_do R [.int k, A] = (match excOf d with
      | none => some (d, R')
      | some p => if p.1 = "WorkroomError" ∧ p.2.1 = (["what"] : List Str) then (p.2.2[0]?).map fun w => (.tup [.str "refused", w], R') else none) := by
  have g : g__law_do [.par R, .dat (.int k), .dat A, .no, .no] = (match excOf d with
      | none => some (.rm (.lf d) [.par R', .dat (.int k), .dat A, .no, .no])
      | some p => if 3 < [Sl.par R', .dat (.int k), .dat A, .no, .no].length ∧ p.1 = "WorkroomError" ∧ p.2.1 = (["what"] : List Str) then (hAll p.2.2 ([Sl.par R', .dat (.int k), .dat A, .no, .no].set 3 .no)).bind outR else none) := by
    show (bAll [.par R, .dat (.int k), .dat A, .no, .no]).bind _ = _
    rw [hb] <;> rfl
  show (g__law_do [.par R, .dat (.int k), .dat A, .no, .no]).bind _ = _
  rw [g]
  cases e : excOf d with
  | none => rfl
  | some p =>
    obtain ⟨p1, p2, p3⟩ := p
    by_cases c : p1 = "WorkroomError" ∧ p2 = (["what"] : List Str)
    · simp only
      rw [if_pos ⟨Nat.le_of_ble_eq_true rfl, c⟩, if_pos c]
      cases p3 with
      | nil => rfl
      | cons w r => rfl
    · simp only
      rw [if_neg (fun z => c z.2), if_neg c] <;> rfl
theorem bBuy_ok {A d : D} (ha : gIx A (.int 0) = some (.str f)) (hx : gIx A (.int 1) = some x) (hm : obM "Workroom" "buy" R = true) (h : F_Workroom_buy R [.str f, x] = some (d, R')) : bAll [.par R, .dat (.int 0), .dat A, .no, .no] = some (.rm (.lf d) [.par R', .dat (.int 0), .dat A, .no, .no]) := by
  have t : tBl (d2 gEq (dVar 1) (dC (.int 0))) [.par R, .dat (.int 0), .dat A, .no, .no] = some true := bl_of (d2_of rfl rfl (eq_ints _ _))
  have ar : aCons (d2 gIx (dVar 2) (dC (.int 0))) (aCons (d2 gIx (dVar 2) (dC (.int 1))) aNil) [.par R, .dat (.int 0), .dat A, .no, .no] = some [.str f, x] := a_two (d2_of rfl rfl ha) (d2_of rfl rfl hx)
  have c : bBuy [.par R, .dat (.int 0), .dat A, .no, .no] = some (d, [.par R', .dat (.int 0), .dat A, .no, .no]) := by
    show (aCons (d2 gIx (dVar 2) (dC (.int 0))) (aCons (d2 gIx (dVar 2) (dC (.int 1))) aNil) [.par R, .dat (.int 0), .dat A, .no, .no]).bind _ = _
    rw [ar]
    show (if obM "Workroom" "buy" R = true then (F_Workroom_buy R [.str f, x]).map _ else none) = _
    rw [if_pos hm, h] <;> rfl
  unfold bAll bIf
  rw [t, Option.bind_some, if_pos rfl]
  unfold bRet
  rw [c] <;> rfl
theorem do_buy {x t : Int} (hm : obM "Workroom" "buy" R = true) (h : F_Workroom_buy R [.str f, .int x] = some (.int t, R')) : F__law_do R [.int 0, .tup [.str f, .int x]] = some (.int t, R') :=
  (do_of (bBuy_ok (f := f) (x := .int x) rfl rfl hm h)).trans rfl
theorem do_no {x : Int} {w : Str} (hm : obM "Workroom" "buy" R = true) (h : F_Workroom_buy R [.str f, .int x] = some (excD "WorkroomError" ["what"] [.str w], R')) : F__law_do R [.int 0, .tup [.str f, .int x]] = some (.tup [.str "refused", .str w], R') := by
  refine (do_of (bBuy_ok (f := f) (x := .int x) rfl rfl hm h)).trans ?_
  rw [excOf_excD]
  exact if_pos ⟨rfl, rfl⟩
theorem do_take {p q y z : D} {w : Str} (hm : obM "Workroom" "take" R = true) (h : F_Workroom_take R [p, q, y, z] = some (excD "WorkroomError" ["what"] [.str w], R')) : F__law_do R [.int 1, .tup [p, q, y, z]] = some (.tup [.str "refused", .str w], R') := by
  let A : D := .tup [p, q, y, z]
  have hb : bAll [.par R, .dat (.int 1), .dat A, .no, .no] = some (.rm (.lf (excD "WorkroomError" ["what"] [.str w])) [.par R', .dat (.int 1), .dat A, .no, .no]) := by
    have t : tBl (d2 gEq (dVar 1) (dC (.int 0))) [.par R, .dat (.int 1), .dat A, .no, .no] = some false := bl_of (d2_of rfl rfl (eq_ints _ _))
    have t2 : tBl (d2 gEq (dVar 1) (dC (.int 1))) [.par R, .dat (.int 1), .dat A, .no, .no] = some true := bl_of (d2_of rfl rfl (eq_ints _ _))
    have c : bTake [.par R, .dat (.int 1), .dat A, .no, .no] = some (excD "WorkroomError" ["what"] [.str w], [.par R', .dat (.int 1), .dat A, .no, .no]) := by
      show (if obM "Workroom" "take" R = true then (F_Workroom_take R [p, q, y, z]).map _ else none) = _
      rw [if_pos hm, h] <;> rfl
    unfold bAll bIf
    rw [t, Option.bind_some, if_neg Bool.false_ne_true, t2, Option.bind_some, if_pos rfl]
    unfold bRet
    rw [c] <;> rfl
  refine (do_of hb).trans ?_
  rw [excOf_excD]
  exact if_pos ⟨rfl, rfl⟩
end
theorem letter_at {i : Nat} (h : i < 26) : gIx (.str "abcdefghijklmnopqrstuvwxyz") (natD i) = some (.str (ltr (97 + i))) := by
  have e : ∀ i < 26, ([97, 98, 99, 100, 101, 102, 103, 104, 105, 106, 107, 108, 109, 110, 111, 112, 113, 114, 115, 116, 117, 118, 119, 120, 121, 122] : List Nat)[i]? = some (97 + i) := by decide
  have l : ("abcdefghijklmnopqrstuvwxyz" : Str).cps.toList = [97, 98, 99, 100, 101, 102, 103, 104, 105, 106, 107, 108, 109, 110, 111, 112, 113, 114, 115, 116, 117, 118, 119, 120, 121, 122] := by rfl
  show (if ("abcdefghijklmnopqrstuvwxyz" : Str).length ≤ lim then (atI ("abcdefghijklmnopqrstuvwxyz" : Str).cps.toList (i : Int)).map _ else none) = _
  rw [if_pos (show ("abcdefghijklmnopqrstuvwxyz" : Str).length ≤ lim from Nat.le_of_ble_eq_true rfl), l, atI_at, e i h] <;> rfl
theorem ltr_ne {a b : Nat} (h : a ≠ b) : ltr a ≠ ltr b := fun z => by
  have z : (⟨#[a]⟩ : Str) = ⟨#[b]⟩ := z
  injection z with z
  injection z with z
  injection z with z _
  exact h z
section
variable {S Dg : Sl} {f : Str}
abbrev E9 (S Dg : Sl) (r : DD.Tr) (f : Str) (s4 s5 s6 s7 s8 : Sl) : En := [S, Dg, .tre r, .dat (.str f), s4, s5, s6, s7, s8]
def stk (f : Str) (k : Nat) : List D := if k = 0 then [] else [pairF (f, 1000000 * (k : Int))]
theorem many_ok : ∃ s4 de, pA0 (E9 S Dg (roomT 0 [] [] []) f .no .no .no .no .no) = some (.nx (E9 S Dg (roomT 999000000 [pairF (f, 999000000)] [] de) f s4 .no .no .no .no)) ∧ de.length = 999 := by
  obtain ⟨en', g, s4, de, rfl, hl⟩ := for_of (fi := iR1 (aCons (dC (.int 999)) aNil)) (gd := gSet 4) (g := sDropM (callMV 2 "Workroom" "buy" F_Workroom_buy (aCons (dVar 3) (aCons (dC (.int 1000000)) aNil)))) (en := E9 S Dg (roomT 0 [] [] []) f .no .no .no .no .no) (List.range 999) natD (range0_nat rfl (by decide))
    (fun i en => ∃ s4 de, en = E9 S Dg (roomT (1000000 * (i : Int)) (stk f i) [] de) f s4 .no .no .no .no ∧ de.length = i) ⟨.no, [], rfl, rfl⟩ (fun i x en hx hI => by
      obtain ⟨s4, de, rfl, hl⟩ := hI
      have hi := (List.getElem?_eq_some_iff.mp hx).1
      rw [List.length_range] at hi
      have ad : F_added_areas [.tup [.lst (stk f i), .lst [pairF (f, 1000000)]]] = some (.lst [pairF (f, 1000000 * ((i + 1 : Nat) : Int))]) := by
        unfold stk
        by_cases c : i = 0
        · subst c
          rw [if_pos rfl]
          exact added_0 (by decide)
        · rw [if_neg c]
          have := added_1 (f := f) (v := 1000000 * (i : Int)) (a := 1000000) (by omega)
          rw [show 1000000 * (i : Int) + 1000000 = 1000000 * ((i + 1 : Nat) : Int) by omega] at this
          exact this
      have b := buy_core (b := 1000000 * (i : Int)) (od := []) (de := de) ad tot_one (by omega)
      rw [if_pos (by omega), show 1000000 * (i : Int) + 1000000 = 1000000 * ((i + 1 : Nat) : Int) by omega] at b
      refine ⟨_, _, rfl, .inl (dropM_of (cmv (t := roomT (1000000 * (i : Int)) (stk f i) [] de) (a_two rfl rfl) rfl rfl b rfl)), .dat (natD x), de ++ [deedD "buy" (1000000 * (i : Int)) (stk f i) []], ?_, by rw [List.length_append, hl] <;> rfl⟩
      have es : stk f (i + 1) = [pairF (f, 1000000 * ((i + 1 : Nat) : Int))] := if_neg (by omega)
      rw [es] <;> rfl)
  rw [List.length_range] at g hl
  exact ⟨s4, de, g, hl⟩
theorem totals_ok {b v : Int} {de : List D} : ∃ x y, F_Workroom_totals (roomT b [pairF (f, v)] [] de) [] = some (.tup [.int b, x, y]) := ⟨_, _, rfl⟩
theorem buy_one {b v x : Int} {de : List D} (hv : v + x ≠ 0) (hl : de.length ≤ 1100) : F_Workroom_buy (roomT b [pairF (f, v)] [] de) [.str f, .int x] = if v + x ≤ 1000000000 then some (.int (v + x), roomT (b + x) [pairF (f, v + x)] [] (de ++ [deedD "buy" b [pairF (f, v)] []])) else some (excD "WorkroomError" ["what"] [.str "too much"], roomT b [pairF (f, v)] [] de) := buy_core (added_1 hv) tot_one hl
theorem buy_other {b v : Int} {g : Str} {de : List D} (hfg : f ≠ g) (hv : v ≠ 0) (hl : de.length ≤ 1100) : ∃ R', F_Workroom_buy (roomT b [pairF (f, v)] [] de) [.str g, .int 1] = some (.int 1, R') := by
  rcases added_2 (g := g) (a := 1) hfg hv (by decide) with h | h
  · have := buy_core (b := b) (od := []) (de := de) h (tot_two hfg) hl
    rw [if_pos (by decide)] at this
    exact ⟨_, this⟩
  · have := buy_core (b := b) (od := []) (de := de) h (tot_two' hfg) hl
    rw [if_pos (by decide)] at this
    exact ⟨_, this⟩
theorem case_much {ds : List Int} {m1 m2 : Nat} (q1 : ds[1]? = some (m1 : Int)) (q2 : ds[2]? = some (m2 : Int)) (h2 : m2 < 26) : gA (E9 S (.dat (.lst (ds.map D.int))) (roomT 0 [] [] []) (ltr (97 + m2)) .no .no .no .no .no) = some (.rt (.bl true)) := by
  let Dg : Sl := .dat (.lst (ds.map D.int))
  let f := ltr (97 + m2)
  let g := ltr (97 + (m2 + 1) % 26)
  have hfg : f ≠ g := ltr_ne (by omega)
  obtain ⟨s4, de, p0, hl⟩ := many_ok (S := S) (Dg := Dg) (f := f)
  obtain ⟨r, hr, hr3⟩ : ∃ r : Nat, ((m1 : Int) % 3) = (r : Int) ∧ r < 3 := ⟨m1 % 3, by omega, by omega⟩
  let R0 := roomT 999000000 [pairF (f, 999000000)] [] de
  let last : Int := 999998 + (r : Int)
  let R1 := roomT (999000000 + last) [pairF (f, 999000000 + last)] [] (de ++ [deedD "buy" 999000000 [pairF (f, 999000000)] []])
  have hl1 : (de ++ [deedD "buy" 999000000 [pairF (f, 999000000)] []]).length ≤ 1100 := by
    rw [List.length_append, hl]
    exact Nat.le_of_ble_eq_true rfl
  let rest : Int := 2 - (r : Int) 
  have p1 : pA1 (E9 S Dg R0 f s4 .no .no .no .no) = some (.nx (E9 S Dg R0 f s4 (.dat (.int last)) .no .no .no)) := by
    refine set_of (d2_of (x := .int 999998) (y := .int (r : Int)) rfl (d2_of (x := natD m1) (y := .int 3) (dig_of (i := 1) rfl q1) rfl ?_) rfl)
    rw [← hr] <;> rfl
  have b1 : F__law_do R0 [.int 0, .tup [.str f, .int last]] = some (.int (999000000 + last), R1) := by
    have b := buy_one (f := f) (b := 999000000) (v := 999000000) (x := last) (de := de) (by show (999000000 : Int) + (999998 + (r : Int)) ≠ 0; omega) (by omega)
    rw [if_pos (show (999000000 : Int) + (999998 + (r : Int)) ≤ 1000000000 by omega)] at b
    exact do_buy rfl b
  have p2 : pA2 (E9 S Dg R0 f s4 (.dat (.int last)) .no .no .no) = some (.nx (E9 S Dg R1 f s4 (.dat (.int last)) .no .no .no)) :=
    sifvF (tvCmp_of (callP_of (t := R0) (a_two rfl (tup_of (a_two rfl rfl))) rfl b1) (y := .int (999000000 + last)) rfl (gNe_same deep_int)) rfl
  have p3 : pA3 (E9 S Dg R1 f s4 (.dat (.int last)) .no .no .no) = some (.nx (E9 S Dg R1 f s4 (.dat (.int last)) (.dat (.int rest)) .no .no)) := by
    obtain ⟨x, y, e⟩ := totals_ok (f := f) (b := 999000000 + last) (v := 999000000 + last) (de := de ++ [deedD "buy" 999000000 [pairF (f, 999000000)] []])
    have e2 : d2 gIx (dProp 2 "Workroom" F_Workroom_totals) (dC (.int 0)) (E9 S Dg R1 f s4 (.dat (.int last)) .no .no .no) = some (.int (999000000 + last)) := d2_of (x := .tup [.int (999000000 + last), x, y]) e rfl rfl
    have z : (1000000000 : Int) - (999000000 + last) = rest := by
      show (1000000000 : Int) - (999000000 + (999998 + (r : Int))) = 2 - (r : Int)
      omega
    refine set_of (d2_of (x := .int 1000000000) rfl e2 ?_)
    rw [← z] <;> rfl
  have p4 : ∃ s7, pA4 (E9 S Dg R1 f s4 (.dat (.int last)) (.dat (.int rest)) .no .no) = some (.nx (E9 S Dg R1 f s4 (.dat (.int last)) (.dat (.int rest)) s7 .no)) := by
    obtain ⟨en', gg, s7, rfl⟩ := for_of (fi := iAny (dL (lLst (aCons (d2 gAdd (dVar 6) (dC (.int 1))) (aCons (d2 gAdd (dVar 6) (dC (.int 2))) aNil))))) (gd := gSet 7) (g := (sIfV (tvCmp gNe (callP 2 F__law_do (aCons (dC (.int 0)) (aCons (dTup (aCons (dVar 3) (aCons (dVar 7) aNil))) aNil))) (dTup (aCons (dC (.str "refused")) (aCons (dC (.str "too much")) aNil)))) (sRet (dC (.bl false))) sNil)) (en := E9 S Dg R1 f s4 (.dat (.int last)) (.dat (.int rest)) .no .no) [rest + 1, rest + 2] D.int rfl
      (fun _ en => ∃ s7, en = E9 S Dg R1 f s4 (.dat (.int last)) (.dat (.int rest)) s7 .no) ⟨_, rfl⟩ (fun i x en hx hI => by
        obtain ⟨s7, rfl⟩ := hI
        have hx' : rest + 1 ≤ x := by
          rcases List.mem_cons.mp (mem_at hx) with h | h
          · omega
          · rw [List.mem_singleton.mp h]
            omega
        have big : ¬ (999000000 + last + x ≤ 1000000000) := by
          have : 2 - (r : Int) + 1 ≤ x := hx'
          show ¬ ((999000000 : Int) + (999998 + (r : Int)) + x ≤ 1000000000)
          omega
        have b := buy_one (f := f) (b := 999000000 + last) (v := 999000000 + last) (x := x) (de := de ++ [deedD "buy" 999000000 [pairF (f, 999000000)] []]) (fun z => big (by omega)) hl1
        rw [if_neg big] at b
        have b2 : F__law_do R1 [.int 0, .tup [.str f, .int x]] = some (.tup [.str "refused", .str "too much"], R1) := do_no rfl b
        exact ⟨_, _, rfl, .inl (sifvF (tvCmp_of (callP_of (t := R1) (a_two rfl (tup_of (a_two rfl rfl))) rfl b2) (tup_of (a_two rfl rfl)) (gNe_same (by decide +kernel))) rfl), _, rfl⟩)
    exact ⟨s7, gg⟩
  obtain ⟨s7, p4⟩ := p4
  obtain ⟨b', v', de', hv', hl', p5⟩ : ∃ b' v' de', v' ≠ 0 ∧ de'.length ≤ 1100 ∧ pA5 (E9 S Dg R1 f s4 (.dat (.int last)) (.dat (.int rest)) s7 .no) = some (.nx (E9 S Dg (roomT b' [pairF (f, v')] [] de') f s4 (.dat (.int last)) (.dat (.int rest)) s7 .no)) := by
    by_cases c : 0 < rest
    · have t : tvOf (tBl (d2 gGt (dVar 6) (dC (.int 0)))) (E9 S Dg R1 f s4 (.dat (.int last)) (.dat (.int rest)) s7 .no) = some (true, E9 S Dg R1 f s4 (.dat (.int last)) (.dat (.int rest)) s7 .no) := by
        show some (decide ((0 : Int) < rest), _) = _
        rw [decide_eq_true c]
      have z : 999000000 + last + rest = 1000000000 := by
        show (999000000 : Int) + (999998 + (r : Int)) + (2 - (r : Int)) = 1000000000
        omega
      have b := buy_one (f := f) (b := 999000000 + last) (v := 999000000 + last) (x := rest) (de := de ++ [deedD "buy" 999000000 [pairF (f, 999000000)] []]) (by rw [z]; decide) hl1
      rw [z, if_pos (by decide)] at b
      have b2 := do_buy (f := f) (x := rest) rfl b
      refine ⟨_, _, _, by decide, ?_, sifvF (en2 := E9 S Dg (roomT 1000000000 [pairF (f, 1000000000)] [] ((de ++ [deedD "buy" 999000000 [pairF (f, 999000000)] []]) ++ [deedD "buy" (999000000 + last) [pairF (f, 999000000 + last)] []])) f s4 (.dat (.int last)) (.dat (.int rest)) s7 .no) ?_ rfl⟩
      · rw [List.length_append, List.length_append, hl]
        exact Nat.le_of_ble_eq_true rfl
      · unfold tvAnd
        rw [t, Option.bind_some, if_pos rfl]
        exact tvCmp_of (callP_of (t := R1) (a_two rfl (tup_of (a_two rfl rfl))) rfl b2) rfl (gNe_same deep_int)
    · have t : tvOf (tBl (d2 gGt (dVar 6) (dC (.int 0)))) (E9 S Dg R1 f s4 (.dat (.int last)) (.dat (.int rest)) s7 .no) = some (false, E9 S Dg R1 f s4 (.dat (.int last)) (.dat (.int rest)) s7 .no) := by
        show some (decide ((0 : Int) < rest), _) = _
        rw [decide_eq_false c]
      refine ⟨_, _, _, ?_, hl1, sifvF (en2 := E9 S Dg R1 f s4 (.dat (.int last)) (.dat (.int rest)) s7 .no) ?_ rfl⟩
      · show (999000000 : Int) + (999998 + (r : Int)) ≠ 0
        omega
      · unfold tvAnd
        rw [t, Option.bind_some, if_neg Bool.false_ne_true]
  have p6 : pA6 (E9 S Dg (roomT b' [pairF (f, v')] [] de') f s4 (.dat (.int last)) (.dat (.int rest)) s7 .no) = some (.nx (E9 S Dg (roomT b' [pairF (f, v')] [] de') f s4 (.dat (.int last)) (.dat (.int rest)) s7 (.dat (.str g)))) := by
    have e : d2 gMod (d2 gAdd (d2 gIx (dVar 1) (dC (.int 2))) (dC (.int 1))) (dC (.int 26)) (E9 S Dg (roomT b' [pairF (f, v')] [] de') f s4 (.dat (.int last)) (.dat (.int rest)) s7 .no) = some (natD ((m2 + 1) % 26)) :=
      d2_of (x := natD (m2 + 1)) (y := .int 26) (d2_of (x := natD m2) (dig_of (i := 2) rfl q2) rfl rfl) rfl rfl
    exact set_of (d2_of rfl e (letter_at (Nat.mod_lt _ (by decide))))
  obtain ⟨R', b3⟩ := buy_other (f := f) (g := g) (b := b') (v := v') (de := de') hfg hv' hl'
  have p7 : pA7 (E9 S Dg (roomT b' [pairF (f, v')] [] de') f s4 (.dat (.int last)) (.dat (.int rest)) s7 (.dat (.str g))) = some (.rt (.bl true)) := by
    have c := callP_of (F := F__law_do) (fr := aCons (dC (.int 0)) (aCons (dTup (aCons (dVar 8) (aCons (dC (.int 1)) aNil))) aNil)) (i := 2) (en := E9 S Dg (roomT b' [pairF (f, v')] [] de') f s4 (.dat (.int last)) (.dat (.int rest)) s7 (.dat (.str g))) (a_two rfl (tup_of (a_two rfl rfl))) rfl (do_buy (f := g) (x := 1) rfl b3)
    show (vCmp gEq (callP 2 F__law_do (aCons (dC (.int 0)) (aCons (dTup (aCons (dVar 8) (aCons (dC (.int 1)) aNil))) aNil))) (dC (.int 1)) (E9 S Dg (roomT b' [pairF (f, v')] [] de') f s4 (.dat (.int last)) (.dat (.int rest)) s7 (.dat (.str g)))).map _ = _
    rw [vCmp_of c rfl (gEq_same deep_int)] <;> rfl
  exact seq p0 (seq p1 (seq p2 (seq p3 (seq p4 (seq p5 (seq p6 p7))))))
end
end G

namespace G
open PySem DD C L2
def cn (s : Str) : Bool := PyData.eqv (py (.str s)) (py k_CANCELED)
theorem cn_w : cn "waiting" = false := by decide +kernel
theorem cn_s : cn "started" = false := by decide +kernel
theorem cn_c : cn "canceled" = true := by decide +kernel
def okW (s : Str) : Prop := deep 60 (.str s) = true
theorem okW_w : okW "waiting" := by unfold okW; decide +kernel
theorem okW_s : okW "started" := by unfold okW; decide +kernel
theorem okW_c : okW "canceled" := by unfold okW; decide +kernel
theorem deep_c : deep 60 k_CANCELED = true := by decide +kernel
theorem deep_s : deep 60 k_STARTED = true := by decide +kernel
theorem len_split (p : Str → Bool) : ∀ xs : List (Str × Nat), (xs.filter fun x => !p x.1).length + (xs.map (·.1)).countP p = xs.length
  | [] => rfl
  | x :: xs => by
    have ih := len_split p xs
    rw [List.map_cons, List.countP_cons, List.length_cons]
    cases h : p x.1 with
    | true =>
      rw [List.filter_cons_of_neg (by rw [h] <;> decide), if_pos rfl]
      omega
    | false =>
      rw [List.filter_cons_of_pos (by rw [h] <;> rfl), List.length_cons, if_neg Bool.false_ne_true]
      omega
theorem orders_ok {a : Nat} {A b : Int} {st de : List D} {ss : List Str} (hl : ss.length ≤ 60) (hw : ∀ s ∈ ss, okW s) : ∃ L, F_Workroom_orders (roomT b st (odS a A ss) de) [] = some (.lst L) ∧ L.length + ss.countP cn = ss.length := by
  let R := roomT b st (odS a A ss) de
  have e : lLc (iEnumK 1 (dFld 0 "Workroom" "_orders")) (gTupD (gsCons (gSet 1) (gsCons (gSet 2) gsNil)) 2) (tBl (d2 gNe (d2 gIx (dVar 2) (dC (.int 3))) (dC k_CANCELED))) (dTup (aCons (dVar 1) (aCons (d2 gEq (d2 gIx (dVar 2) (dC (.int 3))) (dC k_STARTED)) aNil))) [1, 2] [.ro R, .no, .no] =
      some ((ss.zipIdx.filter fun x => !cn x.1).map fun x => .tup [.int (1 + (x.2 : Nat)), .bl (PyData.eqv (py (.str x.1)) (py k_STARTED))]) := by
    refine lc_of ss.zipIdx (fun x => .tup [.int (1 + (x.2 : Nat)), ordD a A x.1]) _ (fun x => !cn x.1) ?_ (by rw [List.length_zipIdx]; omega) fun x hx => ?_
    · show some (countD 1 (odS a A ss)) = _
      unfold countD odS
      rw [List.zipIdx_map, List.map_map] <;> rfl
    · have hx' : x.1 ∈ ss := by
        obtain ⟨s, n⟩ := x
        exact List.fst_mem_of_mem_zipIdx hx
      refine ⟨[.ro R, .dat (.int (1 + (x.2 : Nat))), .dat (ordD a A x.1)], rfl, ?_, fun _ => tup_of (a_two rfl (d2_of (x := .str x.1) (d2_of (x := ordD a A x.1) rfl rfl rfl) rfl (eq_cl (hw _ hx') deep_s rfl)))⟩
      exact bl_of (d2_of (x := .str x.1) (d2_of (x := ordD a A x.1) rfl rfl rfl) rfl (ne_cl (hw _ hx') deep_c rfl))
  refine ⟨(ss.zipIdx.filter fun x => !cn x.1).map fun x => .tup [.int (1 + (x.2 : Nat)), .bl (PyData.eqv (py (.str x.1)) (py k_STARTED))], ?_, ?_⟩
  · have g : g_Workroom_orders [.ro R, .no, .no] = some (.rt (.lst ((ss.zipIdx.filter fun x => !cn x.1).map fun x => .tup [.int (1 + (x.2 : Nat)), .bl (PyData.eqv (py (.str x.1)) (py k_STARTED))]))) := ret_of (dL_of e)
    show (g_Workroom_orders [.ro R, .no, .no]).bind _ = _
    rw [g] <;> rfl
  · have := len_split cn ss.zipIdx
    rw [List.length_zipIdx, List.zipIdx_map_fst] at this
    rw [List.length_map]
    exact this
section
variable {S Dg : Sl}
def isDeed (x : Str) : Prop := x = "take" ∨ x = "cancel" ∨ x = "start"
theorem in_cl {x y : D} {ys : List D} (e : y = .lst ys) (h1 : deep 58 x = true ∧ deepAll 58 ys = true) (h2 : ((pyAll ys).any fun z => PyData.eqv z (py x)) = true) : gInL x y = some (.bl true) := by
  subst e
  show (if deep 58 x = true ∧ deepAll 58 ys = true then some (D.bl ((pyAll ys).any fun z => PyData.eqv z (py x))) else none) = _
  rw [if_pos h1, h2]
theorem deed_in {x : Str} (h : isDeed x) : gInL (.str x) (.lst [.str "take", .str "cancel", .str "start"]) = some (.bl true) := by
  rcases h with rfl | rfl | rfl
  · exact in_cl rfl (by decide +kernel) (by decide +kernel)
  · exact in_cl rfl (by decide +kernel) (by decide +kernel)
  · exact in_cl rfl (by decide +kernel) (by decide +kernel)
structure Rm (a : Nat) (A : Int) (n3 i : Nat) (T : DD.Tr) : Prop where
  e : ∃ v ss de x b' st' ss', T = roomT 1000000 [pairF (ltr a, v)] (odS a A ss) (de ++ [deedD x b' st' (odS a A ss')]) ∧ ss.length = i ∧ 1000000 - 3200 * (i : Int) ≤ v ∧ (∀ s ∈ ss, okW s) ∧ ss.countP cn ≤ (if n3 ≤ i ∧ 1 ≤ n3 then 1 else 0) ∧ de.length ≤ 2 * i ∧
    (i = 0 ∨ (isDeed x ∧ ss'.length ≤ 60 ∧ i ≤ ss'.length + 1 ∧ (∀ s ∈ ss', okW s) ∧ ss'.countP cn ≤ 1))
theorem odS_snoc {a : Nat} {A : Int} (ss : List Str) (s : Str) : odS a A ss ++ [ordD a A s] = odS a A (ss ++ [s]) := by
  unfold odS
  rw [List.map_append] <;> rfl
theorem odS_len {a : Nat} {A : Int} (ss : List Str) : (odS a A ss).length = ss.length := List.length_map ..
abbrev gTk : En → Option (D × En) := callMV 2 "Workroom" "take" F_Workroom_take (aCons (dTup (aCons (dTup (aCons (dVar 3) aNil)) aNil)) (aCons (dTup (aCons (dTup (aCons (dC (.int 0)) (aCons (dC (.int 0)) (aCons (dC (.int 1)) (aCons (dC (.int 1)) aNil))))) aNil)) (aCons (d2 gAdd (dC (.int 1)) (d2 gIx (dVar 1) (dC (.int 1)))) (aCons (dC (.int 0)) aNil))))
abbrev gEnd : En → Option Out := sIf (tBl (d2 gEq (d2 gAdd (dVar 4) (dC (.int 1))) (d2 gIx (dVar 1) (dC (.int 3))))) (sDropM (callMV 2 "Workroom" "cancel" F_Workroom_cancel (aCons (d2 gAdd (dVar 4) (dC (.int 1))) aNil))) (sIf (tBl (d2 gEq (d2 gAdd (dVar 4) (dC (.int 1))) (d2 gIx (dVar 1) (dC (.int 4))))) (sDropM (callMV 2 "Workroom" "start" F_Workroom_start (aCons (d2 gAdd (dVar 4) (dC (.int 1))) aNil))) sNil)
theorem mem_app {ss : List Str} {s : Str} (h : ∀ x ∈ ss, okW x) (hs : okW s) : ∀ x ∈ ss ++ [s], okW x := fun x hx => by
  rcases List.mem_append.mp hx with hx | hx
  · exact h x hx
  · rw [List.mem_singleton.mp hx]
    exact hs
theorem step_ok {ds : List Int} {a m1 m3 m4 i : Nat} (ha : 97 ≤ a ∧ a ≤ 122) (q1 : ds[1]? = some (m1 : Int)) (q3 : ds[3]? = some (m3 : Int)) (q4 : ds[4]? = some (m4 : Int)) (h1 : m1 < 5) (hi : i < 60) {T : DD.Tr} (k : Rm a (Ac (1 + m1)) m3 i T) {s5 s6 s7 s8 : Sl} :
    ∃ T', sSeq (sIfV (tvCmp gNe gTk (d2 gAdd (dVar 4) (dC (.int 1)))) (sRet (dC (.bl false))) sNil) gEnd (E9 S (.dat (.lst (ds.map D.int))) T (ltr a) (.dat (natD i)) s5 s6 s7 s8) = some (.nx (E9 S (.dat (.lst (ds.map D.int))) T' (ltr a) (.dat (natD i)) s5 s6 s7 s8)) ∧ Rm a (Ac (1 + m1)) m3 (i + 1) T' := by
  obtain ⟨v, ss, de, x, b', st', ss', rfl, hl, hv, hw, hc, hd, hx⟩ := k.e
  let c := 1 + m1
  let A := Ac c
  have hA : 0 < A ∧ A ≤ 50 := by
    have : c = 1 ∨ c = 2 ∨ c = 3 ∨ c = 4 ∨ c = 5 := by
      show 1 + m1 = 1 ∨ 1 + m1 = 2 ∨ 1 + m1 = 3 ∨ 1 + m1 = 4 ∨ 1 + m1 = 5
      omega
    show 0 < Ac c ∧ Ac c ≤ 50
    rcases this with e | e | e | e | e <;> rw [e] <;> decide
  let E : DD.Tr → En := fun T => E9 S (.dat (.lst (ds.map D.int))) T (ltr a) (.dat (natD i)) s5 s6 s7 s8
  let D0 := de ++ [deedD x b' st' (odS a A ss')]
  have ld : D0.length ≤ 200 := by
    show (de ++ [deedD x b' st' (odS a A ss')]).length ≤ 200
    rw [List.length_append]
    show de.length + 1 ≤ 200
    omega
  let T0 := roomT 1000000 [pairF (ltr a, v)] (odS a A ss) D0
  let D1 := D0 ++ [deedD "take" 1000000 [pairF (ltr a, v)] (odS a A ss)]
  have ld1 : D1.length ≤ 1100 := by
    show (D0 ++ [deedD "take" 1000000 [pairF (ltr a, v)] (odS a A ss)]).length ≤ 1100
    rw [List.length_append]
    show D0.length + 1 ≤ 1100
    omega
  let T1 := roomT 1000000 [pairF (ltr a, v - A)] (odS a A ss ++ [ordD a A "waiting"]) D1
  have ol : (odS a A ss).length = i := (odS_len ss).trans hl
  have tk := take_ok (b := 1000000) (od := odS a A ss) (de := D0) ha (c := c) (by show 1 ≤ 1 + m1; omega) (by show 1 + m1 ≤ 40; omega) (v := v) (by show 0 < v - A; omega) (by omega) (by omega)
  rw [ol] at tk
  have ec : d2 gAdd (dC (.int 1)) (d2 gIx (dVar 1) (dC (.int 1))) (E T0) = some (natD c) := by
    refine d2_of (x := .int 1) (y := natD m1) rfl (dig_of (i := 1) rfl q1) ?_
    have z : (1 + (m1 : Int)) = ((1 + m1 : Nat) : Int) := by omega
    show some (D.int (1 + (m1 : Int))) = some (D.int ((1 + m1 : Nat) : Int))
    rw [z]
  have ar : aCons (dTup (aCons (dTup (aCons (dVar 3) aNil)) aNil)) (aCons (dTup (aCons (dTup (aCons (dC (.int 0)) (aCons (dC (.int 0)) (aCons (dC (.int 1)) (aCons (dC (.int 1)) aNil))))) aNil)) (aCons (d2 gAdd (dC (.int 1)) (d2 gIx (dVar 1) (dC (.int 1)))) (aCons (dC (.int 0)) aNil))) (E T0) = some [patC (pt1 a), psD [rc1], natD c, natD 0] :=
    a_cons rfl (a_cons rfl (a_two ec rfl))
  have tv : tvCmp gNe gTk (d2 gAdd (dVar 4) (dC (.int 1))) (E T0) = some (false, E T1) :=
    tvCmp_of (cmv (t := T0) ar rfl rfl tk rfl) (y := natD (i + 1)) rfl (gNe_same deep_int)
  have n4 : ∀ T, d2 gAdd (dVar 4) (dC (.int 1)) (E T) = some (natD (i + 1)) := fun T => rfl
  have hcw : (ss ++ [("waiting" : Str)]).countP cn = ss.countP cn := by
    rw [List.countP_append, List.countP_cons, cn_w, if_neg Bool.false_ne_true] <;> rfl
  have hlw : ∀ s : Str, (ss ++ [s]).length = i + 1 := fun s => by rw [List.length_append, hl] <;> rfl
  have mono : ss.countP cn ≤ (if m3 ≤ i + 1 ∧ 1 ≤ m3 then 1 else 0) := by
    refine Nat.le_trans hc ?_
    split <;> split <;> omega
  have c1 : ss.countP cn ≤ 1 := by
    refine Nat.le_trans hc ?_
    split <;> omega
  by_cases e3 : i + 1 = m3
  · have t : tBl (d2 gEq (d2 gAdd (dVar 4) (dC (.int 1))) (d2 gIx (dVar 1) (dC (.int 3)))) (E T1) = some true := by
      refine bl_of (d2_of (n4 T1) (dig_of (i := 3) rfl q3) ((eq_ints _ _).trans ?_))
      rw [decide_eq_true (by omega)]
    have cc := cancel_ok (b := 1000000) (a := a) (od := odS a A ss) (de := D1) (v := v - A) (A := A) (by omega) (by omega) ld1
    rw [ol] at cc
    have s2 : sDropM (callMV 2 "Workroom" "cancel" F_Workroom_cancel (aCons (d2 gAdd (dVar 4) (dC (.int 1))) aNil)) (E T1) = some (.nx (E (roomT 1000000 [pairF (ltr a, v - A + A)] (odS a A ss ++ [ordD a A "canceled"]) (D1 ++ [deedD "cancel" 1000000 [pairF (ltr a, v - A)] (odS a A ss ++ [ordD a A "waiting"])])))) :=
      dropM_of (cmv (t := T1) (a_one (n4 T1)) rfl rfl cc rfl)
    refine ⟨_, seq (sifvF tv rfl) (sifT t s2), ⟨⟨v - A + A, ss ++ [("canceled" : Str)], D1, "cancel", 1000000, [pairF (ltr a, v - A)], ss ++ [("waiting" : Str)], ?_, hlw _, by omega, mem_app hw okW_c, ?_, ?_, .inr ⟨.inr (.inl rfl), by rw [hlw]; omega, by rw [hlw]; omega, mem_app hw okW_w, by rw [hcw]; exact c1⟩⟩⟩⟩
    · rw [odS_snoc, odS_snoc]
    · rw [List.countP_append, List.countP_cons, cn_c, if_pos rfl, List.countP_nil, if_pos (by omega)]
      rw [if_neg (by omega)] at hc
      omega
    · show (D0 ++ [deedD "take" 1000000 [pairF (ltr a, v)] (odS a A ss)]).length ≤ _
      show ((de ++ [deedD x b' st' (odS a A ss')]) ++ [deedD "take" 1000000 [pairF (ltr a, v)] (odS a A ss)]).length ≤ _
      rw [List.length_append, List.length_append]
      show de.length + 1 + 1 ≤ _
      omega
  · have t : tBl (d2 gEq (d2 gAdd (dVar 4) (dC (.int 1))) (d2 gIx (dVar 1) (dC (.int 3)))) (E T1) = some false := by
      refine bl_of (d2_of (n4 T1) (dig_of (i := 3) rfl q3) ((eq_ints _ _).trans ?_))
      rw [decide_eq_false (by omega)]
    by_cases e4 : i + 1 = m4
    · have t2 : tBl (d2 gEq (d2 gAdd (dVar 4) (dC (.int 1))) (d2 gIx (dVar 1) (dC (.int 4)))) (E T1) = some true := by
        refine bl_of (d2_of (n4 T1) (dig_of (i := 4) rfl q4) ((eq_ints _ _).trans ?_))
        rw [decide_eq_true (by omega)]
      have cc := start_ok (b := 1000000) (st := [pairF (ltr a, v - A)]) (od := odS a A ss) (de := D1) (A := A) ha (by omega) ld1
      rw [ol] at cc
      have s2 : sDropM (callMV 2 "Workroom" "start" F_Workroom_start (aCons (d2 gAdd (dVar 4) (dC (.int 1))) aNil)) (E T1) = some (.nx (E (roomT 1000000 [pairF (ltr a, v - A)] (odS a A ss ++ [ordD a A "started"]) (D1 ++ [deedD "start" 1000000 [pairF (ltr a, v - A)] (odS a A ss ++ [ordD a A "waiting"])])))) :=
        dropM_of (cmv (t := T1) (a_one (n4 T1)) rfl rfl cc rfl)
      refine ⟨_, seq (sifvF tv rfl) (sifF t (sifT t2 s2)), ⟨⟨v - A, ss ++ [("started" : Str)], D1, "start", 1000000, [pairF (ltr a, v - A)], ss ++ [("waiting" : Str)], ?_, hlw _, by omega, mem_app hw okW_s, ?_, ?_, .inr ⟨.inr (.inr rfl), by rw [hlw]; omega, by rw [hlw]; omega, mem_app hw okW_w, by rw [hcw]; exact c1⟩⟩⟩⟩
      · rw [odS_snoc, odS_snoc]
      · rw [List.countP_append, List.countP_cons, cn_s, if_neg Bool.false_ne_true, List.countP_nil]
        exact mono
      · show ((de ++ [deedD x b' st' (odS a A ss')]) ++ [deedD "take" 1000000 [pairF (ltr a, v)] (odS a A ss)]).length ≤ _
        rw [List.length_append, List.length_append]
        show de.length + 1 + 1 ≤ _
        omega
    · have t2 : tBl (d2 gEq (d2 gAdd (dVar 4) (dC (.int 1))) (d2 gIx (dVar 1) (dC (.int 4)))) (E T1) = some false := by
        refine bl_of (d2_of (n4 T1) (dig_of (i := 4) rfl q4) ((eq_ints _ _).trans ?_))
        rw [decide_eq_false (by omega)]
      refine ⟨T1, seq (sifvF tv rfl) (sifF t (sifF t2 rfl)), ⟨⟨v - A, ss ++ [("waiting" : Str)], D0, "take", 1000000, [pairF (ltr a, v)], ss, ?_, hlw _, by omega, mem_app hw okW_w, by rw [hcw]; exact mono, ?_, .inr ⟨.inl rfl, by omega, by omega, hw, c1⟩⟩⟩⟩
      · show roomT 1000000 [pairF (ltr a, v - A)] (odS a A ss ++ [ordD a A "waiting"]) D1 = _
        rw [odS_snoc]
      · show (de ++ [deedD x b' st' (odS a A ss')]).length ≤ _
        rw [List.length_append]
        show de.length + 1 ≤ _
        omega
theorem case_orders {ds : List Int} {a m1 m3 m4 : Nat} (ha : 97 ≤ a ∧ a ≤ 122) (q1 : ds[1]? = some (m1 : Int)) (q3 : ds[3]? = some (m3 : Int)) (q4 : ds[4]? = some (m4 : Int)) (h1 : m1 < 5) : gB (E9 S (.dat (.lst (ds.map D.int))) (roomT 0 [] [] []) (ltr a) .no .no .no .no .no) = some (.rt (.bl true)) := by
  let E : DD.Tr → Sl → En := fun T s4 => E9 S (.dat (.lst (ds.map D.int))) T (ltr a) s4 .no .no .no .no
  let A := Ac (1 + m1)
  let R0 := roomT 1000000 [pairF (ltr a, 1000000)] [] [deedD "buy" 0 [] []]
  have p0 : pB0 (E (roomT 0 [] [] []) .no) = some (.nx (E R0 .no)) := by
    have b := buy_core (b := 0) (od := []) (de := []) (added_0 (f := ltr a) (a := 1000000) (by decide)) tot_one (by decide)
    rw [if_pos (by decide)] at b
    exact dropM_of (cmv (t := roomT 0 [] [] []) (a_two rfl rfl) rfl rfl b rfl)
  obtain ⟨en', p1, T, s4, rfl, k⟩ := for_of (fi := iR1 (aCons (dC (.int 60)) aNil)) (gd := gSet 4) (g := sSeq (sIfV (tvCmp gNe gTk (d2 gAdd (dVar 4) (dC (.int 1)))) (sRet (dC (.bl false))) sNil) gEnd) (en := E R0 .no) (List.range 60) natD (range0_nat rfl (by decide))
    (fun i en => ∃ T s4, en = E T s4 ∧ Rm a A m3 i T) ⟨R0, .no, rfl, ⟨⟨1000000, [], [], "buy", 0, [], [], rfl, rfl, by decide, fun _ h => (nomatch h), Nat.zero_le _, Nat.zero_le _, .inl rfl⟩⟩⟩ (fun i x en hx hI => by
      obtain ⟨T, s4, rfl, k⟩ := hI
      have hi := (List.getElem?_eq_some_iff.mp hx).1
      rw [List.length_range] at hi
      have ex : x = i := by
        rw [List.getElem?_range hi] at hx
        cases hx
        rfl
      subst ex
      obtain ⟨T', g, k'⟩ := step_ok (S := S) (s5 := .no) (s6 := .no) (s7 := .no) (s8 := .no) ha q1 q3 q4 h1 hi k
      exact ⟨_, _, rfl, .inl g, T', _, rfl, k'⟩)
  rw [List.length_range] at k
  obtain ⟨v, ss, de, x, b', st', ss', rfl, hl, hv, hw, hc, hd, hx⟩ := k.e
  rcases hx with hx | ⟨hx, l1, l2, hw', hc'⟩
  · cases hx
  let T := roomT 1000000 [pairF (ltr a, v)] (odS a A ss) (de ++ [deedD x b' st' (odS a A ss')])
  have p2 : pB2 (E T s4) = some (.nx (E T s4)) := by
    have tn := take_no (b := 1000000) (st := [pairF (ltr a, v)]) (od := odS a A ss) (de := de ++ [deedD x b' st' (odS a A ss')]) ha (x := .int 1) (y := .int 0) (Nat.le_of_eq ((odS_len ss).trans hl).symm)
    have dn := do_take (p := patC (pt1 a)) (q := psD [rc1]) (y := .int 1) (z := .int 0) rfl tn
    exact sifvF (tvCmp_of (callP_of (t := T) (a_two rfl (tup_of (a_cons rfl (a_cons rfl (a_two rfl rfl))))) rfl dn) (tup_of (a_two rfl rfl)) (gNe_same (by decide +kernel))) rfl
  let T2 := roomT b' st' (odS a A ss') de
  have u := undo_ok (b := 1000000) (st := [pairF (ltr a, v)]) (od := odS a A ss) (de := de) (x := x) (b' := b') (st' := st') (od' := odS a A ss')
  have v1 : vCmp gInL (callMV 2 "Workroom" "undo" F_Workroom_undo aNil) (dL (lLst (aCons (dC (.str "take")) (aCons (dC (.str "cancel")) (aCons (dC (.str "start")) aNil))))) (E T s4) = some (.bl true, E T2 s4) :=
    vCmp_of (cmv (t := T) rfl rfl rfl u rfl) rfl (deed_in hx)
  obtain ⟨L, eo, lo⟩ := orders_ok (a := a) (A := A) (b := b') (st := st') (de := de) l1 hw'
  have v2 : d2 gGe (dCB gLen (aCons (dProp 2 "Workroom" F_Workroom_orders) aNil)) (dC (.int 58)) (E T2 s4) = some (.bl true) := by
    refine d2_of (x := natD L.length) (cb_of (a_one (d := .lst L) eo) rfl) rfl ?_
    show some (D.bl (decide ((58 : Int) ≤ (L.length : Int)))) = _
    rw [decide_eq_true (by omega)]
  have p3 : pB3 (E T s4) = some (.rt (.bl true)) := by
    have e : vAnd (vCmp gInL (callMV 2 "Workroom" "undo" F_Workroom_undo aNil) (dL (lLst (aCons (dC (.str "take")) (aCons (dC (.str "cancel")) (aCons (dC (.str "start")) aNil)))))) (d2 gGe (dCB gLen (aCons (dProp 2 "Workroom" F_Workroom_orders) aNil)) (dC (.int 58))) (E T s4) = some (.bl true, E T2 s4) := by
      unfold vAnd
      rw [v1, Option.bind_some]
      show (d2 gGe (dCB gLen (aCons (dProp 2 "Workroom" F_Workroom_orders) aNil)) (dC (.int 58)) (E T2 s4)).map _ = _
      rw [v2] <;> rfl
    show (vAnd (vCmp gInL (callMV 2 "Workroom" "undo" F_Workroom_undo aNil) (dL (lLst (aCons (dC (.str "take")) (aCons (dC (.str "cancel")) (aCons (dC (.str "start")) aNil)))))) (d2 gGe (dCB gLen (aCons (dProp 2 "Workroom" F_Workroom_orders) aNil)) (dC (.int 58))) (E T s4)).map _ = _
    rw [e] <;> rfl
  exact seq p0 (seq p1 (seq p2 p3))
end
theorem law_true (ns : List Int) (hl : ns.length ≤ 63) : F_law [.lst (ns.map D.int)] = some (.bl true) := by
  obtain ⟨ds, ed, dl, dB⟩ := draw_ok ns 0 [2, 5, 26, 61, 61] (by omega) (by decide) (by decide)
  obtain ⟨m0, q0, b0⟩ := below_at dB dl (i := 0) (b := 2) rfl
  obtain ⟨m1, q1, b1⟩ := below_at dB dl (i := 1) (b := 5) rfl
  obtain ⟨m2, q2, b2⟩ := below_at dB dl (i := 2) (b := 26) rfl
  obtain ⟨m3, q3, b3⟩ := below_at dB dl (i := 3) (b := 61) rfl
  obtain ⟨m4, q4, b4⟩ := below_at dB dl (i := 4) (b := 61) rfl
  let S : Sl := .dat (.lst (ns.map D.int))
  let Dg : Sl := .dat (.lst (ds.map D.int))
  have g1 : sSet 1 (dCall F__law_draw (aCons (dVar 0) (aCons (dC (.int 0)) (aCons (dL (lLst (aCons (dC (.int 2)) (aCons (dC (.int 5)) (aCons (dC (.int 26)) (aCons (dC (.int 61)) (aCons (dC (.int 61)) aNil))))))) aNil)))) [S, .no, .no, .no, .no, .no, .no, .no, .no] = some (.nx [S, Dg, .no, .no, .no, .no, .no, .no, .no]) :=
    set_of (call_of (a_cons rfl (a_two rfl rfl)) ed)
  have g2 : sNewM 2 (newM "Workroom" F_Workroom___init__ aNil) [S, Dg, .no, .no, .no, .no, .no, .no, .no] = some (.nx [S, Dg, .tre (roomT 0 [] [] []), .no, .no, .no, .no, .no, .no]) := rfl
  have g3 : sSet 3 (d2 gIx (dC (.str "abcdefghijklmnopqrstuvwxyz")) (d2 gIx (dVar 1) (dC (.int 2)))) [S, Dg, .tre (roomT 0 [] [] []), .no, .no, .no, .no, .no, .no] = some (.nx (E9 S Dg (roomT 0 [] [] []) (ltr (97 + m2)) .no .no .no .no .no)) :=
    set_of (d2_of rfl (dig_of (i := 2) rfl q2) (letter_at (by omega)))
  have t : tBl (d2 gEq (d2 gIx (dVar 1) (dC (.int 0))) (dC (.int 0))) (E9 S Dg (roomT 0 [] [] []) (ltr (97 + m2)) .no .no .no .no .no) = some (decide ((m0 : Int) = 0)) := bl_of (d2_of (dig_of (i := 0) rfl q0) rfl (eq_ints _ _))
  by_cases c : m0 = 0
  · rw [decide_eq_true (by omega)] at t
    exact run_rt rfl (seq g1 (seq g2 (seq g3 (seqR (sifT t (case_much q1 q2 (by omega)))))))
  · rw [decide_eq_false (by omega)] at t
    exact run_rt rfl (seq g1 (seq g2 (seq g3 (seq (sifF t rfl) (case_orders (by omega) q1 q3 q4 (by omega))))))
end G

namespace G
open PySem PySem.Spec PyProof.Rows L2 DD
theorem rp_ints {K : PySem.W.Frag} {H : Hp} : ∀ ns : List Int, RpAll K H (ns.map V.int) (ns.map D.int)
  | [] => .nil
  | n :: ns => .cons (.int n) (rp_ints ns)
theorem all_mk {l : PySem.W.OpenLaw} {w : World} {K : PySem.W.Frag} {h : Heap} {mg : Str → Option Value} {fa : Addr} (X : K.In h) (G : h.Ns mainGlobals mg) (hfa : mg "law" = some (.ref fa))
    {CA0 : Addr}
    {CA1 : Addr}
    {f0 : Addr} {od0 an0 : Option Addr} {sl0 : Array (Option Value)} {oc0 kV0 dc0 pm0 cd0 ct0 : Value}
    {f1 : Addr} {od1 an1 : Option Addr} {sl1 : Array (Option Value)} {oc1 kV1 dc1 pm1 cd1 ct1 : Value}
    {f2 : Addr} {od2 an2 : Option Addr} {sl2 : Array (Option Value)} {oc2 kV2 dc2 pm2 cd2 ct2 : Value}
    {mp3 : Addr} {mrs3 : List Value}
    {f3 : Addr} {od3 an3 : Option Addr} {sl3 : Array (Option Value)} {oc3 kV3 dc3 pm3 cd3 ct3 : Value}
    {mp4 : Addr} {mrs4 : List Value}
    {f4 : Addr} {od4 an4 : Option Addr} {sl4 : Array (Option Value)} {oc4 kV4 dc4 pm4 cd4 ct4 : Value}
    {f5 : Addr} {od5 an5 : Option Addr} {sl5 : Array (Option Value)} {oc5 kV5 dc5 pm5 cd5 ct5 : Value}
    {mp6 : Addr} {mrs6 : List Value}
    {f6 : Addr} {od6 an6 : Option Addr} {sl6 : Array (Option Value)} {oc6 kV6 dc6 pm6 cd6 ct6 : Value}
    {f7 : Addr} {od7 an7 : Option Addr} {sl7 : Array (Option Value)} {oc7 kV7 dc7 pm7 cd7 ct7 : Value}
    {f8 : Addr} {od8 an8 : Option Addr} {sl8 : Array (Option Value)} {oc8 kV8 dc8 pm8 cd8 ct8 : Value}
    {f9 : Addr} {od9 an9 : Option Addr} {sl9 : Array (Option Value)} {oc9 kV9 dc9 pm9 cd9 ct9 : Value}
    {f10 : Addr} {od10 an10 : Option Addr} {sl10 : Array (Option Value)} {oc10 kV10 dc10 pm10 cd10 ct10 : Value}
    {f11 : Addr} {od11 an11 : Option Addr} {sl11 : Array (Option Value)} {oc11 kV11 dc11 pm11 cd11 ct11 : Value}
    {f12 : Addr} {od12 an12 : Option Addr} {sl12 : Array (Option Value)} {oc12 kV12 dc12 pm12 cd12 ct12 : Value}
    {f13 : Addr} {od13 an13 : Option Addr} {sl13 : Array (Option Value)} {oc13 kV13 dc13 pm13 cd13 ct13 : Value}
    {f14 : Addr} {od14 an14 : Option Addr} {sl14 : Array (Option Value)} {oc14 kV14 dc14 pm14 cd14 ct14 : Value}
    {f15 : Addr} {od15 an15 : Option Addr} {sl15 : Array (Option Value)} {oc15 kV15 dc15 pm15 cd15 ct15 : Value}
    {f16 : Addr} {od16 an16 : Option Addr} {sl16 : Array (Option Value)} {oc16 kV16 dc16 pm16 cd16 ct16 : Value}
    {f17 : Addr} {od17 an17 : Option Addr} {sl17 : Array (Option Value)} {oc17 kV17 dc17 pm17 cd17 ct17 : Value}
    {f18 : Addr} {od18 an18 : Option Addr} {sl18 : Array (Option Value)} {oc18 kV18 dc18 pm18 cd18 ct18 : Value}
    {f19 : Addr} {od19 an19 : Option Addr} {sl19 : Array (Option Value)} {oc19 kV19 dc19 pm19 cd19 ct19 : Value}
    {f20 : Addr} {od20 an20 : Option Addr} {sl20 : Array (Option Value)} {oc20 kV20 dc20 pm20 cd20 ct20 : Value}
    {f21 : Addr} {od21 an21 : Option Addr} {sl21 : Array (Option Value)} {oc21 kV21 dc21 pm21 cd21 ct21 : Value}
    {f22 : Addr} {od22 an22 : Option Addr} {sl22 : Array (Option Value)} {oc22 kV22 dc22 pm22 cd22 ct22 : Value}
    {f23 : Addr} {od23 an23 : Option Addr} {sl23 : Array (Option Value)} {oc23 kV23 dc23 pm23 cd23 ct23 : Value}
    {f24 : Addr} {od24 an24 : Option Addr} {sl24 : Array (Option Value)} {oc24 kV24 dc24 pm24 cd24 ct24 : Value}
    {f25 : Addr} {od25 an25 : Option Addr} {sl25 : Array (Option Value)} {oc25 kV25 dc25 pm25 cd25 ct25 : Value}
    {f26 : Addr} {od26 an26 : Option Addr} {sl26 : Array (Option Value)} {oc26 kV26 dc26 pm26 cd26 ct26 : Value}
    {f27 : Addr} {od27 an27 : Option Addr} {sl27 : Array (Option Value)} {oc27 kV27 dc27 pm27 cd27 ct27 : Value}
    {f28 : Addr} {od28 an28 : Option Addr} {sl28 : Array (Option Value)} {oc28 kV28 dc28 pm28 cd28 ct28 : Value}
    {f29 : Addr} {od29 an29 : Option Addr} {sl29 : Array (Option Value)} {oc29 kV29 dc29 pm29 cd29 ct29 : Value}
    {f30 : Addr} {od30 an30 : Option Addr} {sl30 : Array (Option Value)} {oc30 kV30 dc30 pm30 cd30 ct30 : Value}
    {f31 : Addr} {od31 an31 : Option Addr} {sl31 : Array (Option Value)} {oc31 kV31 dc31 pm31 cd31 ct31 : Value}
    {f32 : Addr} {od32 an32 : Option Addr} {sl32 : Array (Option Value)} {oc32 kV32 dc32 pm32 cd32 ct32 : Value}
    {f33 : Addr} {od33 an33 : Option Addr} {sl33 : Array (Option Value)} {oc33 kV33 dc33 pm33 cd33 ct33 : Value}
    {mp34 : Addr} {mrs34 : List Value}
    {f34 : Addr} {od34 an34 : Option Addr} {sl34 : Array (Option Value)} {oc34 kV34 dc34 pm34 cd34 ct34 : Value}
    {mp35 : Addr} {mrs35 : List Value}
    {f35 : Addr} {od35 an35 : Option Addr} {sl35 : Array (Option Value)} {oc35 kV35 dc35 pm35 cd35 ct35 : Value}
    {mp36 : Addr} {mrs36 : List Value}
    {f36 : Addr} {od36 an36 : Option Addr} {sl36 : Array (Option Value)} {oc36 kV36 dc36 pm36 cd36 ct36 : Value}
    {mp37 : Addr} {mrs37 : List Value}
    {f37 : Addr} {od37 an37 : Option Addr} {sl37 : Array (Option Value)} {oc37 kV37 dc37 pm37 cd37 ct37 : Value}
    {f38 : Addr} {od38 an38 : Option Addr} {sl38 : Array (Option Value)} {oc38 kV38 dc38 pm38 cd38 ct38 : Value}
    {f39 : Addr} {od39 an39 : Option Addr} {sl39 : Array (Option Value)} {oc39 kV39 dc39 pm39 cd39 ct39 : Value}
    {f40 : Addr} {od40 an40 : Option Addr} {sl40 : Array (Option Value)} {oc40 kV40 dc40 pm40 cd40 ct40 : Value}
    {f41 : Addr} {od41 an41 : Option Addr} {sl41 : Array (Option Value)} {oc41 kV41 dc41 pm41 cd41 ct41 : Value}
    {f42 : Addr} {od42 an42 : Option Addr} {sl42 : Array (Option Value)} {oc42 kV42 dc42 pm42 cd42 ct42 : Value}
    {C0 N0 S0 I0 cda0 cc0 : Addr} {nm0 qn0 cfi0 : Str} {ctf0 : Tok} {bs0 sb0 : List Value} {sn0 : List Str} {ab0 : Bool} {cl0 : Option Bool} {dd0 iod0 ian0 cdd0 ecd0 : Option Addr} {h00 h10 h20 h30 h50 : Option Value} {ioc0 idc0 ipm0 ict0 ccl0 ecl0 : Value} {cvs0 : Array Value} {isl0 ccs0 ecs0 : Array (Option Value)}
    {C1 N1 S1 I1 cda1 cc1 : Addr} {nm1 qn1 cfi1 : Str} {ctf1 : Tok} {bs1 sb1 : List Value} {sn1 : List Str} {ab1 : Bool} {cl1 : Option Bool} {dd1 iod1 ian1 cdd1 ecd1 : Option Addr} {h01 h11 h21 h31 h51 : Option Value} {ioc1 idc1 ipm1 ict1 ccl1 ecl1 : Value} {cvs1 : Array Value} {isl1 ccs1 ecs1 : Array (Option Value)}
    {SA0 SA1 SA2 SA3 : Addr}
    {tk0 : Tok}
    {tk1 : Tok}
    {tk2 : Tok}
    {tk3 : Tok}
    {tk4 : Tok}
    {tk5 : Tok}
    (ca0 : PySem.W.nsIn K mainGlobals "Assembly" = some (some (.ref CA0))) (cpg0 : PySem.W.plainGet K CA0 Str.empty = true) (chd0 : PySem.W.hasDictIn K CA0 = true) (cpo0 : PySem.W.plainOver K CA0 = true) (csa0 : PySem.W.findIn K (.ref CA0) "__setattr__" = some (some (.builtin "object.__setattr__"))) (cmk0 : PySem.W.makesIn K CA0 = true) (ckc0 : PySem.W.keepIn K (.ref CA0) = true)
    (cno0_0 : PySem.W.findIn K (.ref CA0) "_pattern" = some none)
    (cno0_1 : PySem.W.findIn K (.ref CA0) "_patches" = some none)
    (cno0_2 : PySem.W.findIn K (.ref CA0) "_sections" = some none)
    (cno0_3 : PySem.W.findIn K (.ref CA0) "_joins" = some none)
    (ca1 : PySem.W.nsIn K mainGlobals "Workroom" = some (some (.ref CA1))) (cpg1 : PySem.W.plainGet K CA1 Str.empty = true) (chd1 : PySem.W.hasDictIn K CA1 = true) (cpo1 : PySem.W.plainOver K CA1 = true) (csa1 : PySem.W.findIn K (.ref CA1) "__setattr__" = some (some (.builtin "object.__setattr__"))) (cmk1 : PySem.W.makesIn K CA1 = true) (ckc1 : PySem.W.keepIn K (.ref CA1) = true)
    (cno1_0 : PySem.W.findIn K (.ref CA1) "_bought" = some none)
    (cno1_1 : PySem.W.findIn K (.ref CA1) "_stock" = some none)
    (cno1_2 : PySem.W.findIn K (.ref CA1) "_orders" = some none)
    (cno1_3 : PySem.W.findIn K (.ref CA1) "_deeds" = some none)
    (a0 : PySem.W.nsIn K mainGlobals "_law_cell" = some (some (.ref f0))) (l0 : K.lookup f0 = some ⟨oc0, od0, .func (PySem.W.fnOf "_law_cell" "_law_cell" (defArgs s__law_cell) (defBody s__law_cell) (defScope s__law_cell) .none kV0 dc0 pm0 an0 cd0 ct0), sl0⟩) (c0 : PySem.W.codeIn K cd0 "_law_cell" = true) (k0 : PySem.W.keepIn K (.ref f0) = true)
    (a1 : PySem.W.nsIn K mainGlobals "_law_draw" = some (some (.ref f1))) (l1 : K.lookup f1 = some ⟨oc1, od1, .func (PySem.W.fnOf "_law_draw" "_law_draw" (defArgs s__law_draw) (defBody s__law_draw) (defScope s__law_draw) .none kV1 dc1 pm1 an1 cd1 ct1), sl1⟩) (c1 : PySem.W.codeIn K cd1 "_law_draw" = true) (k1 : PySem.W.keepIn K (.ref f1) = true)
    (a2 : PySem.W.findIn K (.ref CA1) "__init__" = some (some (.ref f2))) (mi2 : PySem.W.isFn K (.ref f2) = true)
    (l2 : K.lookup f2 = some ⟨oc2, od2, .func (PySem.W.fnOf "__init__" "Workroom.__init__" (defArgs s_Workroom___init__) (defBody s_Workroom___init__) (defScope s_Workroom___init__) .none kV2 dc2 pm2 an2 cd2 ct2), sl2⟩) (c2 : PySem.W.codeIn K cd2 "Workroom.__init__" = true) (k2 : PySem.W.keepIn K (.ref f2) = true)
    (a3 : PySem.W.findIn K (.ref CA1) "stock" = some (some (.ref mp3))) (mg3 : PySem.W.specialIn K (.ref mp3) "__get__" = some (some (.builtin "property.__get__"))) (mt3 : PySem.W.takesIn K (.ref mp3) = some true) (mr3 : PySem.W.recIn K mp3 "property" = some (.ref f3 :: mrs3))
    (l3 : K.lookup f3 = some ⟨oc3, od3, .func (PySem.W.fnOf "stock" "Workroom.stock" (defArgs s_Workroom_stock) (defBody s_Workroom_stock) (defScope s_Workroom_stock) .none kV3 dc3 pm3 an3 cd3 ct3), sl3⟩) (c3 : PySem.W.codeIn K cd3 "Workroom.stock" = true) (k3 : PySem.W.keepIn K (.ref f3) = true)
    (a4 : PySem.W.findIn K (.ref CA1) "orders" = some (some (.ref mp4))) (mg4 : PySem.W.specialIn K (.ref mp4) "__get__" = some (some (.builtin "property.__get__"))) (mt4 : PySem.W.takesIn K (.ref mp4) = some true) (mr4 : PySem.W.recIn K mp4 "property" = some (.ref f4 :: mrs4))
    (l4 : K.lookup f4 = some ⟨oc4, od4, .func (PySem.W.fnOf "orders" "Workroom.orders" (defArgs s_Workroom_orders) (defBody s_Workroom_orders) (defScope s_Workroom_orders) .none kV4 dc4 pm4 an4 cd4 ct4), sl4⟩) (c4 : PySem.W.codeIn K cd4 "Workroom.orders" = true) (k4 : PySem.W.keepIn K (.ref f4) = true)
    (a5 : PySem.W.nsIn K mainGlobals "total_area" = some (some (.ref f5))) (l5 : K.lookup f5 = some ⟨oc5, od5, .func (PySem.W.fnOf "total_area" "total_area" (defArgs s_total_area) (defBody s_total_area) (defScope s_total_area) .none kV5 dc5 pm5 an5 cd5 ct5), sl5⟩) (c5 : PySem.W.codeIn K cd5 "total_area" = true) (k5 : PySem.W.keepIn K (.ref f5) = true)
    (a6 : PySem.W.findIn K (.ref CA1) "totals" = some (some (.ref mp6))) (mg6 : PySem.W.specialIn K (.ref mp6) "__get__" = some (some (.builtin "property.__get__"))) (mt6 : PySem.W.takesIn K (.ref mp6) = some true) (mr6 : PySem.W.recIn K mp6 "property" = some (.ref f6 :: mrs6))
    (l6 : K.lookup f6 = some ⟨oc6, od6, .func (PySem.W.fnOf "totals" "Workroom.totals" (defArgs s_Workroom_totals) (defBody s_Workroom_totals) (defScope s_Workroom_totals) .none kV6 dc6 pm6 an6 cd6 ct6), sl6⟩) (c6 : PySem.W.codeIn K cd6 "Workroom.totals" = true) (k6 : PySem.W.keepIn K (.ref f6) = true)
    (a7 : PySem.W.findIn K (.ref CA1) "_keep" = some (some (.ref f7))) (mi7 : PySem.W.isFn K (.ref f7) = true)
    (l7 : K.lookup f7 = some ⟨oc7, od7, .func (PySem.W.fnOf "_keep" "Workroom._keep" (defArgs s_Workroom__keep) (defBody s_Workroom__keep) (defScope s_Workroom__keep) .none kV7 dc7 pm7 an7 cd7 ct7), sl7⟩) (c7 : PySem.W.codeIn K cd7 "Workroom._keep" = true) (k7 : PySem.W.keepIn K (.ref f7) = true)
    (a8 : PySem.W.findIn K (.ref CA1) "__contains__" = some (some (.ref f8))) (mi8 : PySem.W.isFn K (.ref f8) = true) (mn8 : PySem.W.fnIn K f8 = true)
    (l8 : K.lookup f8 = some ⟨oc8, od8, .func (PySem.W.fnOf "__contains__" "Workroom.__contains__" (defArgs s_Workroom___contains__) (defBody s_Workroom___contains__) (defScope s_Workroom___contains__) .none kV8 dc8 pm8 an8 cd8 ct8), sl8⟩) (c8 : PySem.W.codeIn K cd8 "Workroom.__contains__" = true) (k8 : PySem.W.keepIn K (.ref f8) = true)
    (a9 : PySem.W.findIn K (.ref CA1) "_check_waiting" = some (some (.ref f9))) (mi9 : PySem.W.isFn K (.ref f9) = true)
    (l9 : K.lookup f9 = some ⟨oc9, od9, .func (PySem.W.fnOf "_check_waiting" "Workroom._check_waiting" (defArgs s_Workroom__check_waiting) (defBody s_Workroom__check_waiting) (defScope s_Workroom__check_waiting) .none kV9 dc9 pm9 an9 cd9 ct9), sl9⟩) (c9 : PySem.W.codeIn K cd9 "Workroom._check_waiting" = true) (k9 : PySem.W.keepIn K (.ref f9) = true)
    (a10 : PySem.W.nsIn K mainGlobals "added_areas" = some (some (.ref f10))) (l10 : K.lookup f10 = some ⟨oc10, od10, .func (PySem.W.fnOf "added_areas" "added_areas" (defArgs s_added_areas) (defBody s_added_areas) (defScope s_added_areas) .none kV10 dc10 pm10 an10 cd10 ct10), sl10⟩) (c10 : PySem.W.codeIn K cd10 "added_areas" = true) (k10 : PySem.W.keepIn K (.ref f10) = true)
    (a11 : PySem.W.findIn K (.ref CA1) "buy" = some (some (.ref f11))) (mi11 : PySem.W.isFn K (.ref f11) = true)
    (l11 : K.lookup f11 = some ⟨oc11, od11, .func (PySem.W.fnOf "buy" "Workroom.buy" (defArgs s_Workroom_buy) (defBody s_Workroom_buy) (defScope s_Workroom_buy) .none kV11 dc11 pm11 an11 cd11 ct11), sl11⟩) (c11 : PySem.W.codeIn K cd11 "Workroom.buy" = true) (k11 : PySem.W.keepIn K (.ref f11) = true)
    (a12 : PySem.W.nsIn K mainGlobals "sides" = some (some (.ref f12))) (l12 : K.lookup f12 = some ⟨oc12, od12, .func (PySem.W.fnOf "sides" "sides" (defArgs s_sides) (defBody s_sides) (defScope s_sides) .none kV12 dc12 pm12 an12 cd12 ct12), sl12⟩) (c12 : PySem.W.codeIn K cd12 "sides" = true) (k12 : PySem.W.keepIn K (.ref f12) = true)
    (a13 : PySem.W.nsIn K mainGlobals "size_of" = some (some (.ref f13))) (l13 : K.lookup f13 = some ⟨oc13, od13, .func (PySem.W.fnOf "size_of" "size_of" (defArgs s_size_of) (defBody s_size_of) (defScope s_size_of) .none kV13 dc13 pm13 an13 cd13 ct13), sl13⟩) (c13 : PySem.W.codeIn K cd13 "size_of" = true) (k13 : PySem.W.keepIn K (.ref f13) = true)
    (a14 : PySem.W.nsIn K mainGlobals "cells_of" = some (some (.ref f14))) (l14 : K.lookup f14 = some ⟨oc14, od14, .func (PySem.W.fnOf "cells_of" "cells_of" (defArgs s_cells_of) (defBody s_cells_of) (defScope s_cells_of) .none kV14 dc14 pm14 an14 cd14 ct14), sl14⟩) (c14 : PySem.W.codeIn K cd14 "cells_of" = true) (k14 : PySem.W.keepIn K (.ref f14) = true)
    (a15 : PySem.W.nsIn K mainGlobals "is_fabric" = some (some (.ref f15))) (l15 : K.lookup f15 = some ⟨oc15, od15, .func (PySem.W.fnOf "is_fabric" "is_fabric" (defArgs s_is_fabric) (defBody s_is_fabric) (defScope s_is_fabric) .none kV15 dc15 pm15 an15 cd15 ct15), sl15⟩) (c15 : PySem.W.codeIn K cd15 "is_fabric" = true) (k15 : PySem.W.keepIn K (.ref f15) = true)
    (a16 : PySem.W.nsIn K mainGlobals "can_be_cut" = some (some (.ref f16))) (l16 : K.lookup f16 = some ⟨oc16, od16, .func (PySem.W.fnOf "can_be_cut" "can_be_cut" (defArgs s_can_be_cut) (defBody s_can_be_cut) (defScope s_can_be_cut) .none kV16 dc16 pm16 an16 cd16 ct16), sl16⟩) (c16 : PySem.W.codeIn K cd16 "can_be_cut" = true) (k16 : PySem.W.keepIn K (.ref f16) = true)
    (a17 : PySem.W.nsIn K mainGlobals "fits" = some (some (.ref f17))) (l17 : K.lookup f17 = some ⟨oc17, od17, .func (PySem.W.fnOf "fits" "fits" (defArgs s_fits) (defBody s_fits) (defScope s_fits) .none kV17 dc17 pm17 an17 cd17 ct17), sl17⟩) (c17 : PySem.W.codeIn K cd17 "fits" = true) (k17 : PySem.W.keepIn K (.ref f17) = true)
    (a18 : PySem.W.nsIn K mainGlobals "check_fit" = some (some (.ref f18))) (l18 : K.lookup f18 = some ⟨oc18, od18, .func (PySem.W.fnOf "check_fit" "check_fit" (defArgs s_check_fit) (defBody s_check_fit) (defScope s_check_fit) .none kV18 dc18 pm18 an18 cd18 ct18), sl18⟩) (c18 : PySem.W.codeIn K cd18 "check_fit" = true) (k18 : PySem.W.keepIn K (.ref f18) = true)
    (a19 : PySem.W.nsIn K mainGlobals "cell_of" = some (some (.ref f19))) (l19 : K.lookup f19 = some ⟨oc19, od19, .func (PySem.W.fnOf "cell_of" "cell_of" (defArgs s_cell_of) (defBody s_cell_of) (defScope s_cell_of) .none kV19 dc19 pm19 an19 cd19 ct19), sl19⟩) (c19 : PySem.W.codeIn K cd19 "cell_of" = true) (k19 : PySem.W.keepIn K (.ref f19) = true)
    (a20 : PySem.W.nsIn K mainGlobals "triangle_side" = some (some (.ref f20))) (l20 : K.lookup f20 = some ⟨oc20, od20, .func (PySem.W.fnOf "triangle_side" "triangle_side" (defArgs s_triangle_side) (defBody s_triangle_side) (defScope s_triangle_side) .none kV20 dc20 pm20 an20 cd20 ct20), sl20⟩) (c20 : PySem.W.codeIn K cd20 "triangle_side" = true) (k20 : PySem.W.keepIn K (.ref f20) = true)
    (a21 : PySem.W.nsIn K mainGlobals "plain_piece" = some (some (.ref f21))) (l21 : K.lookup f21 = some ⟨oc21, od21, .func (PySem.W.fnOf "plain_piece" "plain_piece" (defArgs s_plain_piece) (defBody s_plain_piece) (defScope s_plain_piece) .none kV21 dc21 pm21 an21 cd21 ct21), sl21⟩) (c21 : PySem.W.codeIn K cd21 "plain_piece" = true) (k21 : PySem.W.keepIn K (.ref f21) = true)
    (a22 : PySem.W.nsIn K mainGlobals "halves" = some (some (.ref f22))) (l22 : K.lookup f22 = some ⟨oc22, od22, .func (PySem.W.fnOf "halves" "halves" (defArgs s_halves) (defBody s_halves) (defScope s_halves) .none kV22 dc22 pm22 an22 cd22 ct22), sl22⟩) (c22 : PySem.W.codeIn K cd22 "halves" = true) (k22 : PySem.W.keepIn K (.ref f22) = true)
    (a23 : PySem.W.nsIn K mainGlobals "areas_of_patch" = some (some (.ref f23))) (l23 : K.lookup f23 = some ⟨oc23, od23, .func (PySem.W.fnOf "areas_of_patch" "areas_of_patch" (defArgs s_areas_of_patch) (defBody s_areas_of_patch) (defScope s_areas_of_patch) .none kV23 dc23 pm23 an23 cd23 ct23), sl23⟩) (c23 : PySem.W.codeIn K cd23 "areas_of_patch" = true) (k23 : PySem.W.keepIn K (.ref f23) = true)
    (a24 : PySem.W.nsIn K mainGlobals "fabric_needed" = some (some (.ref f24))) (l24 : K.lookup f24 = some ⟨oc24, od24, .func (PySem.W.fnOf "fabric_needed" "fabric_needed" (defArgs s_fabric_needed) (defBody s_fabric_needed) (defScope s_fabric_needed) .none kV24 dc24 pm24 an24 cd24 ct24), sl24⟩) (c24 : PySem.W.codeIn K cd24 "fabric_needed" = true) (k24 : PySem.W.keepIn K (.ref f24) = true)
    (a25 : PySem.W.nsIn K mainGlobals "less" = some (some (.ref f25))) (l25 : K.lookup f25 = some ⟨oc25, od25, .func (PySem.W.fnOf "less" "less" (defArgs s_less) (defBody s_less) (defScope s_less) .none kV25 dc25 pm25 an25 cd25 ct25), sl25⟩) (c25 : PySem.W.codeIn K cd25 "less" = true) (k25 : PySem.W.keepIn K (.ref f25) = true)
    (a26 : PySem.W.findIn K (.ref CA1) "take" = some (some (.ref f26))) (mi26 : PySem.W.isFn K (.ref f26) = true)
    (l26 : K.lookup f26 = some ⟨oc26, od26, .func (PySem.W.fnOf "take" "Workroom.take" (defArgs s_Workroom_take) (defBody s_Workroom_take) (defScope s_Workroom_take) .none kV26 dc26 pm26 an26 cd26 ct26), sl26⟩) (c26 : PySem.W.codeIn K cd26 "Workroom.take" = true) (k26 : PySem.W.keepIn K (.ref f26) = true)
    (a27 : PySem.W.nsIn K mainGlobals "with_state" = some (some (.ref f27))) (l27 : K.lookup f27 = some ⟨oc27, od27, .func (PySem.W.fnOf "with_state" "with_state" (defArgs s_with_state) (defBody s_with_state) (defScope s_with_state) .none kV27 dc27 pm27 an27 cd27 ct27), sl27⟩) (c27 : PySem.W.codeIn K cd27 "with_state" = true) (k27 : PySem.W.keepIn K (.ref f27) = true)
    (a28 : PySem.W.findIn K (.ref CA1) "cancel" = some (some (.ref f28))) (mi28 : PySem.W.isFn K (.ref f28) = true)
    (l28 : K.lookup f28 = some ⟨oc28, od28, .func (PySem.W.fnOf "cancel" "Workroom.cancel" (defArgs s_Workroom_cancel) (defBody s_Workroom_cancel) (defScope s_Workroom_cancel) .none kV28 dc28 pm28 an28 cd28 ct28), sl28⟩) (c28 : PySem.W.codeIn K cd28 "Workroom.cancel" = true) (k28 : PySem.W.keepIn K (.ref f28) = true)
    (a29 : PySem.W.nsIn K mainGlobals "rectangle_of" = some (some (.ref f29))) (l29 : K.lookup f29 = some ⟨oc29, od29, .func (PySem.W.fnOf "rectangle_of" "rectangle_of" (defArgs s_rectangle_of) (defBody s_rectangle_of) (defScope s_rectangle_of) .none kV29 dc29 pm29 an29 cd29 ct29), sl29⟩) (c29 : PySem.W.codeIn K cd29 "rectangle_of" = true) (k29 : PySem.W.keepIn K (.ref f29) = true)
    (a30 : PySem.W.nsIn K mainGlobals "in_order" = some (some (.ref f30))) (l30 : K.lookup f30 = some ⟨oc30, od30, .func (PySem.W.fnOf "in_order" "in_order" (defArgs s_in_order) (defBody s_in_order) (defScope s_in_order) .none kV30 dc30 pm30 an30 cd30 ct30), sl30⟩) (c30 : PySem.W.codeIn K cd30 "in_order" = true) (k30 : PySem.W.keepIn K (.ref f30) = true)
    (a31 : PySem.W.nsIn K mainGlobals "first_sections" = some (some (.ref f31))) (l31 : K.lookup f31 = some ⟨oc31, od31, .func (PySem.W.fnOf "first_sections" "first_sections" (defArgs s_first_sections) (defBody s_first_sections) (defScope s_first_sections) .none kV31 dc31 pm31 an31 cd31 ct31), sl31⟩) (c31 : PySem.W.codeIn K cd31 "first_sections" = true) (k31 : PySem.W.keepIn K (.ref f31) = true)
    (a32 : PySem.W.findIn K (.ref CA0) "__init__" = some (some (.ref f32))) (mi32 : PySem.W.isFn K (.ref f32) = true)
    (l32 : K.lookup f32 = some ⟨oc32, od32, .func (PySem.W.fnOf "__init__" "Assembly.__init__" (defArgs s_Assembly___init__) (defBody s_Assembly___init__) (defScope s_Assembly___init__) .none kV32 dc32 pm32 an32 cd32 ct32), sl32⟩) (c32 : PySem.W.codeIn K cd32 "Assembly.__init__" = true) (k32 : PySem.W.keepIn K (.ref f32) = true)
    (a33 : PySem.W.findIn K (.ref CA0) "__len__" = some (some (.ref f33))) (mi33 : PySem.W.isFn K (.ref f33) = true) (mn33 : PySem.W.fnIn K f33 = true)
    (l33 : K.lookup f33 = some ⟨oc33, od33, .func (PySem.W.fnOf "__len__" "Assembly.__len__" (defArgs s_Assembly___len__) (defBody s_Assembly___len__) (defScope s_Assembly___len__) .none kV33 dc33 pm33 an33 cd33 ct33), sl33⟩) (c33 : PySem.W.codeIn K cd33 "Assembly.__len__" = true) (k33 : PySem.W.keepIn K (.ref f33) = true)
    (a34 : PySem.W.findIn K (.ref CA0) "pattern" = some (some (.ref mp34))) (mg34 : PySem.W.specialIn K (.ref mp34) "__get__" = some (some (.builtin "property.__get__"))) (mt34 : PySem.W.takesIn K (.ref mp34) = some true) (mr34 : PySem.W.recIn K mp34 "property" = some (.ref f34 :: mrs34))
    (l34 : K.lookup f34 = some ⟨oc34, od34, .func (PySem.W.fnOf "pattern" "Assembly.pattern" (defArgs s_Assembly_pattern) (defBody s_Assembly_pattern) (defScope s_Assembly_pattern) .none kV34 dc34 pm34 an34 cd34 ct34), sl34⟩) (c34 : PySem.W.codeIn K cd34 "Assembly.pattern" = true) (k34 : PySem.W.keepIn K (.ref f34) = true)
    (a35 : PySem.W.findIn K (.ref CA0) "patches" = some (some (.ref mp35))) (mg35 : PySem.W.specialIn K (.ref mp35) "__get__" = some (some (.builtin "property.__get__"))) (mt35 : PySem.W.takesIn K (.ref mp35) = some true) (mr35 : PySem.W.recIn K mp35 "property" = some (.ref f35 :: mrs35))
    (l35 : K.lookup f35 = some ⟨oc35, od35, .func (PySem.W.fnOf "patches" "Assembly.patches" (defArgs s_Assembly_patches) (defBody s_Assembly_patches) (defScope s_Assembly_patches) .none kV35 dc35 pm35 an35 cd35 ct35), sl35⟩) (c35 : PySem.W.codeIn K cd35 "Assembly.patches" = true) (k35 : PySem.W.keepIn K (.ref f35) = true)
    (a36 : PySem.W.findIn K (.ref CA0) "sections" = some (some (.ref mp36))) (mg36 : PySem.W.specialIn K (.ref mp36) "__get__" = some (some (.builtin "property.__get__"))) (mt36 : PySem.W.takesIn K (.ref mp36) = some true) (mr36 : PySem.W.recIn K mp36 "property" = some (.ref f36 :: mrs36))
    (l36 : K.lookup f36 = some ⟨oc36, od36, .func (PySem.W.fnOf "sections" "Assembly.sections" (defArgs s_Assembly_sections) (defBody s_Assembly_sections) (defScope s_Assembly_sections) .none kV36 dc36 pm36 an36 cd36 ct36), sl36⟩) (c36 : PySem.W.codeIn K cd36 "Assembly.sections" = true) (k36 : PySem.W.keepIn K (.ref f36) = true)
    (a37 : PySem.W.findIn K (.ref CA0) "sewn_length" = some (some (.ref mp37))) (mg37 : PySem.W.specialIn K (.ref mp37) "__get__" = some (some (.builtin "property.__get__"))) (mt37 : PySem.W.takesIn K (.ref mp37) = some true) (mr37 : PySem.W.recIn K mp37 "property" = some (.ref f37 :: mrs37))
    (l37 : K.lookup f37 = some ⟨oc37, od37, .func (PySem.W.fnOf "sewn_length" "Assembly.sewn_length" (defArgs s_Assembly_sewn_length) (defBody s_Assembly_sewn_length) (defScope s_Assembly_sewn_length) .none kV37 dc37 pm37 an37 cd37 ct37), sl37⟩) (c37 : PySem.W.codeIn K cd37 "Assembly.sewn_length" = true) (k37 : PySem.W.keepIn K (.ref f37) = true)
    (a38 : PySem.W.findIn K (.ref CA1) "start" = some (some (.ref f38))) (mi38 : PySem.W.isFn K (.ref f38) = true)
    (l38 : K.lookup f38 = some ⟨oc38, od38, .func (PySem.W.fnOf "start" "Workroom.start" (defArgs s_Workroom_start) (defBody s_Workroom_start) (defScope s_Workroom_start) .none kV38 dc38 pm38 an38 cd38 ct38), sl38⟩) (c38 : PySem.W.codeIn K cd38 "Workroom.start" = true) (k38 : PySem.W.keepIn K (.ref f38) = true)
    (a39 : PySem.W.findIn K (.ref CA1) "undo" = some (some (.ref f39))) (mi39 : PySem.W.isFn K (.ref f39) = true)
    (l39 : K.lookup f39 = some ⟨oc39, od39, .func (PySem.W.fnOf "undo" "Workroom.undo" (defArgs s_Workroom_undo) (defBody s_Workroom_undo) (defScope s_Workroom_undo) .none kV39 dc39 pm39 an39 cd39 ct39), sl39⟩) (c39 : PySem.W.codeIn K cd39 "Workroom.undo" = true) (k39 : PySem.W.keepIn K (.ref f39) = true)
    (a40 : PySem.W.findIn K (.ref CA1) "__len__" = some (some (.ref f40))) (mi40 : PySem.W.isFn K (.ref f40) = true) (mn40 : PySem.W.fnIn K f40 = true)
    (l40 : K.lookup f40 = some ⟨oc40, od40, .func (PySem.W.fnOf "__len__" "Workroom.__len__" (defArgs s_Workroom___len__) (defBody s_Workroom___len__) (defScope s_Workroom___len__) .none kV40 dc40 pm40 an40 cd40 ct40), sl40⟩) (c40 : PySem.W.codeIn K cd40 "Workroom.__len__" = true) (k40 : PySem.W.keepIn K (.ref f40) = true)
    (a41 : PySem.W.nsIn K mainGlobals "_law_do" = some (some (.ref f41))) (l41 : K.lookup f41 = some ⟨oc41, od41, .func (PySem.W.fnOf "_law_do" "_law_do" (defArgs s__law_do) (defBody s__law_do) (defScope s__law_do) .none kV41 dc41 pm41 an41 cd41 ct41), sl41⟩) (c41 : PySem.W.codeIn K cd41 "_law_do" = true) (k41 : PySem.W.keepIn K (.ref f41) = true)
    (a42 : PySem.W.nsIn K mainGlobals "law" = some (some (.ref f42))) (l42 : K.lookup f42 = some ⟨oc42, od42, .func (PySem.W.fnOf "law" "law" (defArgs s_law) (defBody s_law) (defScope s_law) .none kV42 dc42 pm42 an42 cd42 ct42), sl42⟩) (c42 : PySem.W.codeIn K cd42 "law" = true) (k42 : PySem.W.keepIn K (.ref f42) = true)
    (q0 : PySem.W.nsIn K mainGlobals "LETTERS" = some (some (.str "abcdefghijklmnopqrstuvwxyz" tk0)))
    (q1 : PySem.W.nsIn K mainGlobals "ORDERS" = some (some (.int 60 tk1)))
    (q2 : PySem.W.nsIn K mainGlobals "STOCK" = some (some (.int 1000000000 tk2)))
    (q3 : PySem.W.nsIn K mainGlobals "WAITING" = some (some (.str "waiting" tk3)))
    (q4 : PySem.W.nsIn K mainGlobals "STARTED" = some (some (.str "started" tk4)))
    (q5 : PySem.W.nsIn K mainGlobals "CANCELED" = some (some (.str "canceled" tk5)))
    (xsup : PySem.W.nsIn K mainGlobals "super" = some none) (xany : PySem.W.nsIn K PySem.cStatics "thirdparty.any" = some none) (xtop : (l.prog.main.scope.names.lookup ("super" : Str)).isSome = false)
    (xa0 : PySem.W.nsIn K mainGlobals "AssemblyError" = some (some (.ref C0)))
    (xL0 : K.lookup C0 = some (excClassObj nm0 qn0 C0 N0 bs0 [.ref S0, .type "ValueError", .type "Exception", .type "BaseException", .type "object"] true sn0 sb0 ab0 cl0 dd0 h00 h10 h20 h30 h50 "ValueError.__new__"))
    (xs0 : PySem.W.findIn K (.ref C0) "__setattr__" = some (some (.builtin "object.__setattr__"))) (xg0 : PySem.W.findIn K (.ref C0) "__getattribute__" = some (some (.builtin "BaseException.__getattribute__"))) (xh0 : PySem.W.findIn K (.ref C0) "__getattr__" = some none)
    (xn0_0 : PySem.W.findIn K (.ref C0) "what" = some none)
    (xi0 : PySem.W.findIn K (.ref C0) "__init__" = some (some (.ref I0))) (xt0 : PySem.W.typeIn K (.ref I0) = some (.type "function"))
    (xl0 : K.lookup I0 = some ⟨ioc0, iod0, .func (PySem.W.ksFn "__init__" "AssemblyError.__init__" (defArgs s_init_AssemblyError) (defBody s_init_AssemblyError) (defScope s_init_AssemblyError) .none .none idc0 ipm0 ian0 (.ref cda0) ict0 cc0), isl0⟩)
    (xd0 : PySem.W.codeIn K (.ref cda0) "AssemblyError.__init__" = true) (xo0 : K.lookup cda0 = some ⟨ccl0, cdd0, .fields cvs0, ccs0⟩) (xv0 : cvs0[2]? = some (.str cfi0 ctf0)) (xf0 : ((l.prog.main.file : Str) == cfi0) = true)
    (xc0 : K.lookup cc0 = some ⟨ecl0, ecd0, .cell (some (.ref C0)), ecs0⟩) (xm0 : PySem.W.mroIn K C0 (.ref C0) = some true) (xu0 : PySem.W.ks_superIn K C0 C0 "__init__" = some (some (.builtin "ValueError.__init__"))) (xw0 : PySem.W.subIn K (.ref C0) (.type "ValueError") = some true)
    (xk0 : PySem.W.keepIn K (.ref C0) = true) (xe0 : PySem.W.subIn K (.ref C0) (.type "BaseException") = some true) (xy0 : PySem.W.typeIn K (.ref C0) = some (.type "type")) (xz0 : PySem.W.hasDictIn K C0 = true) (xq0 : PySem.W.isClsIn K C0 = true) (xr0 : PySem.W.subIn K (.ref C0) (.ref C0) = some true)
    (xa1 : PySem.W.nsIn K mainGlobals "WorkroomError" = some (some (.ref C1)))
    (xL1 : K.lookup C1 = some (excClassObj nm1 qn1 C1 N1 bs1 [.ref S1, .type "ValueError", .type "Exception", .type "BaseException", .type "object"] true sn1 sb1 ab1 cl1 dd1 h01 h11 h21 h31 h51 "ValueError.__new__"))
    (xs1 : PySem.W.findIn K (.ref C1) "__setattr__" = some (some (.builtin "object.__setattr__"))) (xg1 : PySem.W.findIn K (.ref C1) "__getattribute__" = some (some (.builtin "BaseException.__getattribute__"))) (xh1 : PySem.W.findIn K (.ref C1) "__getattr__" = some none)
    (xn1_0 : PySem.W.findIn K (.ref C1) "what" = some none)
    (xi1 : PySem.W.findIn K (.ref C1) "__init__" = some (some (.ref I1))) (xt1 : PySem.W.typeIn K (.ref I1) = some (.type "function"))
    (xl1 : K.lookup I1 = some ⟨ioc1, iod1, .func (PySem.W.ksFn "__init__" "WorkroomError.__init__" (defArgs s_init_WorkroomError) (defBody s_init_WorkroomError) (defScope s_init_WorkroomError) .none .none idc1 ipm1 ian1 (.ref cda1) ict1 cc1), isl1⟩)
    (xd1 : PySem.W.codeIn K (.ref cda1) "WorkroomError.__init__" = true) (xo1 : K.lookup cda1 = some ⟨ccl1, cdd1, .fields cvs1, ccs1⟩) (xv1 : cvs1[2]? = some (.str cfi1 ctf1)) (xf1 : ((l.prog.main.file : Str) == cfi1) = true)
    (xc1 : K.lookup cc1 = some ⟨ecl1, ecd1, .cell (some (.ref C1)), ecs1⟩) (xm1 : PySem.W.mroIn K C1 (.ref C1) = some true) (xu1 : PySem.W.ks_superIn K C1 C1 "__init__" = some (some (.builtin "ValueError.__init__"))) (xw1 : PySem.W.subIn K (.ref C1) (.type "ValueError") = some true)
    (xk1 : PySem.W.keepIn K (.ref C1) = true) (xe1 : PySem.W.subIn K (.ref C1) (.type "BaseException") = some true) (xy1 : PySem.W.typeIn K (.ref C1) = some (.type "type")) (xz1 : PySem.W.hasDictIn K C1 = true) (xq1 : PySem.W.isClsIn K C1 = true) (xr1 : PySem.W.subIn K (.ref C1) (.ref C1) = some true)
    (jA1 : PySem.W.findIn K (.ref C1) "__class__" = some (some (.builtin "object.__class__"))) (jM1 : PySem.W.mroIn K C1 (.type "object") = some true)
    (jN : PySem.W.specialIn K (.builtin "object.__class__") "__get__" = some (some (.builtin "getset_descriptor.__get__"))) (jT : PySem.W.takesIn K (.builtin "object.__class__") = some true)
    (ya0 : PySem.W.nsIn K mainGlobals "SewnError" = some (some (.ref SA0))) (yb0 : PySem.W.subIn K (.ref SA0) (.type "BaseException") = some true) (yc0 : PySem.W.isClsIn K SA0 = true) (yt0 : PySem.W.typeIn K (.ref SA0) = some (.type "type"))
    (ya1 : PySem.W.nsIn K mainGlobals "WorkroomError" = some (some (.ref SA1))) (yb1 : PySem.W.subIn K (.ref SA1) (.type "BaseException") = some true) (yc1 : PySem.W.isClsIn K SA1 = true) (yt1 : PySem.W.typeIn K (.ref SA1) = some (.type "type"))
    (ya2 : PySem.W.nsIn K mainGlobals "AssemblyError" = some (some (.ref SA2))) (yb2 : PySem.W.subIn K (.ref SA2) (.type "BaseException") = some true) (yc2 : PySem.W.isClsIn K SA2 = true) (yt2 : PySem.W.typeIn K (.ref SA2) = some (.type "type"))
    (ya3 : PySem.W.nsIn K mainGlobals "FabricError" = some (some (.ref SA3))) (yb3 : PySem.W.subIn K (.ref SA3) (.type "BaseException") = some true) (yc3 : PySem.W.isClsIn K SA3 = true) (yt3 : PySem.W.typeIn K (.ref SA3) = some (.type "type"))
    (yp1_0 : PySem.W.subIn K (.ref C1) (.ref SA0) = some true)
    (yp1_1 : PySem.W.subIn K (.ref C1) (.ref SA1) = some true)
    (yp1_2 : PySem.W.subIn K (.ref C1) (.ref SA2) = some false)
    (yp1_3 : PySem.W.subIn K (.ref C1) (.ref SA3) = some false)
    (z0 : PySem.W.nsIn K mainGlobals "all" = some none)
    (z1 : PySem.W.nsIn K mainGlobals "any" = some none)
    (z2 : PySem.W.nsIn K mainGlobals "bool" = some none)
    (z3 : PySem.W.nsIn K mainGlobals "dict" = some none)
    (z4 : PySem.W.nsIn K mainGlobals "enumerate" = some none)
    (z5 : PySem.W.nsIn K mainGlobals "int" = some none)
    (z6 : PySem.W.nsIn K mainGlobals "isinstance" = some none)
    (z7 : PySem.W.nsIn K mainGlobals "len" = some none)
    (z8 : PySem.W.nsIn K mainGlobals "list" = some none)
    (z9 : PySem.W.nsIn K mainGlobals "max" = some none)
    (z10 : PySem.W.nsIn K mainGlobals "range" = some none)
    (z11 : PySem.W.nsIn K mainGlobals "sorted" = some none)
    (z12 : PySem.W.nsIn K mainGlobals "sum" = some none)
    (z13 : PySem.W.nsIn K mainGlobals "tuple" = some none)
    : ∃ fd : FuncData, (∀ (s : Shared) (v : Value), BindsTo s fd ⟨[v], []⟩ [("script", v)]) ∧ ∀ base : Heap, K.In base → base.Ns mainGlobals mg → FnOk l.prog w K mg base CX0 10 fa fd ["script"] (spD K F_law) := by
  have e := hfa.symm.trans (PySem.W.mg_of X G a42)
  cases e
  have F0 := fun_mk (st := s__law_cell) l0 c0 k0
  have F1 := fun_mk (st := s__law_draw) l1 c1 k1
  have F2 := fun_mk (st := s_Workroom___init__) l2 c2 k2
  have F3 := fun_mk (st := s_Workroom_stock) l3 c3 k3
  have F4 := fun_mk (st := s_Workroom_orders) l4 c4 k4
  have F5 := fun_mk (st := s_total_area) l5 c5 k5
  have F6 := fun_mk (st := s_Workroom_totals) l6 c6 k6
  have F7 := fun_mk (st := s_Workroom__keep) l7 c7 k7
  have F8 := fun_mk (st := s_Workroom___contains__) l8 c8 k8
  have F9 := fun_mk (st := s_Workroom__check_waiting) l9 c9 k9
  have F10 := fun_mk (st := s_added_areas) l10 c10 k10
  have F11 := fun_mk (st := s_Workroom_buy) l11 c11 k11
  have F12 := fun_mk (st := s_sides) l12 c12 k12
  have F13 := fun_mk (st := s_size_of) l13 c13 k13
  have F14 := fun_mk (st := s_cells_of) l14 c14 k14
  have F15 := fun_mk (st := s_is_fabric) l15 c15 k15
  have F16 := fun_mk (st := s_can_be_cut) l16 c16 k16
  have F17 := fun_mk (st := s_fits) l17 c17 k17
  have F18 := fun_mk (st := s_check_fit) l18 c18 k18
  have F19 := fun_mk (st := s_cell_of) l19 c19 k19
  have F20 := fun_mk (st := s_triangle_side) l20 c20 k20
  have F21 := fun_mk (st := s_plain_piece) l21 c21 k21
  have F22 := fun_mk (st := s_halves) l22 c22 k22
  have F23 := fun_mk (st := s_areas_of_patch) l23 c23 k23
  have F24 := fun_mk (st := s_fabric_needed) l24 c24 k24
  have F25 := fun_mk (st := s_less) l25 c25 k25
  have F26 := fun_mk (st := s_Workroom_take) l26 c26 k26
  have F27 := fun_mk (st := s_with_state) l27 c27 k27
  have F28 := fun_mk (st := s_Workroom_cancel) l28 c28 k28
  have F29 := fun_mk (st := s_rectangle_of) l29 c29 k29
  have F30 := fun_mk (st := s_in_order) l30 c30 k30
  have F31 := fun_mk (st := s_first_sections) l31 c31 k31
  have F32 := fun_mk (st := s_Assembly___init__) l32 c32 k32
  have F33 := fun_mk (st := s_Assembly___len__) l33 c33 k33
  have F34 := fun_mk (st := s_Assembly_pattern) l34 c34 k34
  have F35 := fun_mk (st := s_Assembly_patches) l35 c35 k35
  have F36 := fun_mk (st := s_Assembly_sections) l36 c36 k36
  have F37 := fun_mk (st := s_Assembly_sewn_length) l37 c37 k37
  have F38 := fun_mk (st := s_Workroom_start) l38 c38 k38
  have F39 := fun_mk (st := s_Workroom_undo) l39 c39 k39
  have F40 := fun_mk (st := s_Workroom___len__) l40 c40 k40
  have F41 := fun_mk (st := s__law_do) l41 c41 k41
  have F42 := fun_mk (st := s_law) l42 c42 k42
  have U0 : SUP.SupC l.prog K mg C0 I0 cc0 cda0 "AssemblyError.__init__" (defArgs s_init_AssemblyError) (defBody s_init_AssemblyError) (defScope s_init_AssemblyError) (PySem.W.ksFn "__init__" "AssemblyError.__init__" (defArgs s_init_AssemblyError) (defBody s_init_AssemblyError) (defScope s_init_AssemblyError) .none .none idc0 ipm0 ian0 (.ref cda0) ict0 cc0) := { oex := ⟨⟨_, _, _, _, _, _, _, _, _, _, _, _, _, _, _, xL0, rfl⟩, xs0, xe0, xy0, xk0⟩, fn := ⟨_, _, _, _, _, _, _, rfl, xl0⟩, code := xd0, cob := ⟨_, _, _, _, _, _, xo0, xv0, xf0⟩, cell := ⟨_, _, _, xc0⟩, self := xm0, nosup := PySem.W.mg_none_of X G xsup, sup := xu0, sub := xw0, any := xany, top := xtop }
  have U1 : SUP.SupC l.prog K mg C1 I1 cc1 cda1 "WorkroomError.__init__" (defArgs s_init_WorkroomError) (defBody s_init_WorkroomError) (defScope s_init_WorkroomError) (PySem.W.ksFn "__init__" "WorkroomError.__init__" (defArgs s_init_WorkroomError) (defBody s_init_WorkroomError) (defScope s_init_WorkroomError) .none .none idc1 ipm1 ian1 (.ref cda1) ict1 cc1) := { oex := ⟨⟨_, _, _, _, _, _, _, _, _, _, _, _, _, _, _, xL1, rfl⟩, xs1, xe1, xy1, xk1⟩, fn := ⟨_, _, _, _, _, _, _, rfl, xl1⟩, code := xd1, cob := ⟨_, _, _, _, _, _, xo1, xv1, xf1⟩, cell := ⟨_, _, _, xc1⟩, self := xm1, nosup := PySem.W.mg_none_of X G xsup, sup := xu1, sub := xw1, any := xany, top := xtop }
  have T : Tx l.prog K mg := {
    C_AssemblyError := C0, I_AssemblyError := I0, fdI_AssemblyError := _, E_AssemblyError := fun w base => ⟨xa0, PySem.W.mg_of X G xa0, U0.oex, xi0, xt0, SUP.init1_ok U0 sc_init_AssemblyError rfl rfl (by decide +kernel) xn0_0 (by decide) (by decide), binds_ks (fun us hl => match us, hl with | [_, _], _ => rfl), ⟨xg0, xh0, xe0, xz0⟩, (by intro n hn; (rcases List.mem_cons.mp hn with rfl | hn; focus assumption); cases hn), exm_of xe0 xq0 xy0 xr0⟩
    C_WorkroomError := C1, I_WorkroomError := I1, fdI_WorkroomError := _, E_WorkroomError := fun w base => ⟨xa1, PySem.W.mg_of X G xa1, U1.oex, xi1, xt1, SUP.init1_ok U1 sc_init_WorkroomError rfl rfl (by decide +kernel) xn1_0 (by decide) (by decide), binds_ks (fun us hl => match us, hl with | [_, _], _ => rfl), ⟨xg1, xh1, xe1, xz1⟩, (by intro n hn; (rcases List.mem_cons.mp hn with rfl | hn; focus assumption); cases hn), exm_of xe1 xq1 xy1 xr1⟩, is_WorkroomError := ⟨⟨xg1, xh1, xe1, xz1⟩, xq1, jA1, jN, jT, jM1⟩
    S_SewnError := SA0, gS_SewnError := PySem.W.mg_of X G ya0
    S_WorkroomError := SA1, gS_WorkroomError := PySem.W.mg_of X G ya1
    S_AssemblyError := SA2, gS_AssemblyError := PySem.W.mg_of X G ya2
    S_FabricError := SA3, gS_FabricError := PySem.W.mg_of X G ya3
    exm_WorkroomError_SewnError := exm_sub yb0 yc0 yt0 yp1_0
    kit_WorkroomError_SewnError := kit_sub yc0 yt0 xr1 yp1_0
    exm_WorkroomError_WorkroomError := exm_sub yb1 yc1 yt1 yp1_1
    kit_WorkroomError_WorkroomError := kit_sub yc1 yt1 xr1 yp1_1
    kit_WorkroomError_AssemblyError := kit_sub yc2 yt2 xr1 yp1_2
    kit_WorkroomError_FabricError := kit_sub yc3 yt3 xr1 yp1_3
    C_Assembly := CA0, nC_Assembly := ca0, gC_Assembly := PySem.W.mg_of X G ca0, cls_Assembly := ⟨cpg0, chd0, cpo0, csa0⟩, na_Assembly__pattern := cno0_0, na_Assembly__patches := cno0_1, na_Assembly__sections := cno0_2, na_Assembly__joins := cno0_3
    C_Workroom := CA1, nC_Workroom := ca1, gC_Workroom := PySem.W.mg_of X G ca1, cls_Workroom := ⟨cpg1, chd1, cpo1, csa1⟩, na_Workroom__bought := cno1_0, na_Workroom__stock := cno1_1, na_Workroom__orders := cno1_2, na_Workroom__deeds := cno1_3
    f__law_cell := _, fd__law_cell := _, F__law_cell := F0, g__law_cell := PySem.W.mg_of X G a0, b__law_cell := F0.binds (ps := ["script", "k"]) (fun _ _ _ _ _ _ us hl => match us, hl with | [_, _], _ => rfl)
    f__law_draw := _, fd__law_draw := _, F__law_draw := F1, g__law_draw := PySem.W.mg_of X G a1, b__law_draw := F1.binds (ps := ["script", "k", "sizes"]) (fun _ _ _ _ _ _ us hl => match us, hl with | [_, _, _], _ => rfl)
    f_Workroom___init__ := _, fd_Workroom___init__ := _, F_Workroom___init__ := F2, b_Workroom___init__ := F2.binds (ps := ["self"]) (fun _ _ _ _ _ _ us hl => match us, hl with | [_], _ => rfl), mk_Workroom := ⟨cmk1, a2, mi2, ckc1⟩
    f_Workroom_stock := _, fd_Workroom_stock := _, F_Workroom_stock := F3, b_Workroom_stock := F3.binds (ps := ["self"]) (fun _ _ _ _ _ _ us hl => match us, hl with | [_], _ => rfl), pa_Workroom_stock := _, po_Workroom_stock := ⟨a3, mg3, mt3, ⟨_, mr3⟩⟩
    f_Workroom_orders := _, fd_Workroom_orders := _, F_Workroom_orders := F4, b_Workroom_orders := F4.binds (ps := ["self"]) (fun _ _ _ _ _ _ us hl => match us, hl with | [_], _ => rfl), pa_Workroom_orders := _, po_Workroom_orders := ⟨a4, mg4, mt4, ⟨_, mr4⟩⟩
    f_total_area := _, fd_total_area := _, F_total_area := F5, g_total_area := PySem.W.mg_of X G a5, b_total_area := F5.binds (ps := ["areas"]) (fun _ _ _ _ _ _ us hl => match us, hl with | [_], _ => rfl)
    f_Workroom_totals := _, fd_Workroom_totals := _, F_Workroom_totals := F6, b_Workroom_totals := F6.binds (ps := ["self"]) (fun _ _ _ _ _ _ us hl => match us, hl with | [_], _ => rfl), pa_Workroom_totals := _, po_Workroom_totals := ⟨a6, mg6, mt6, ⟨_, mr6⟩⟩
    f_Workroom__keep := _, fd_Workroom__keep := _, F_Workroom__keep := F7, b_Workroom__keep := F7.binds (ps := ["self", "deed"]) (fun _ _ _ _ _ _ us hl => match us, hl with | [_, _], _ => rfl), m_Workroom__keep := ⟨a7, mi7, k7⟩
    f_Workroom___contains__ := _, fd_Workroom___contains__ := _, F_Workroom___contains__ := F8, b_Workroom___contains__ := F8.binds (ps := ["self", "order"]) (fun _ _ _ _ _ _ us hl => match us, hl with | [_, _], _ => rfl), sp_Workroom___contains__ := ⟨a8, mn8, mi8⟩
    f_Workroom__check_waiting := _, fd_Workroom__check_waiting := _, F_Workroom__check_waiting := F9, b_Workroom__check_waiting := F9.binds (ps := ["self", "order"]) (fun _ _ _ _ _ _ us hl => match us, hl with | [_, _], _ => rfl), m_Workroom__check_waiting := ⟨a9, mi9, k9⟩
    f_added_areas := _, fd_added_areas := _, F_added_areas := F10, g_added_areas := PySem.W.mg_of X G a10, bs_added_areas := fun rest => match rest with | [] => rfl | _ :: _ => rfl
    f_Workroom_buy := _, fd_Workroom_buy := _, F_Workroom_buy := F11, b_Workroom_buy := F11.binds (ps := ["self", "fabric", "area"]) (fun _ _ _ _ _ _ us hl => match us, hl with | [_, _, _], _ => rfl), m_Workroom_buy := ⟨a11, mi11, k11⟩
    f_sides := _, fd_sides := _, F_sides := F12, g_sides := PySem.W.mg_of X G a12, b_sides := F12.binds (ps := ["patches"]) (fun _ _ _ _ _ _ us hl => match us, hl with | [_], _ => rfl)
    f_size_of := _, fd_size_of := _, F_size_of := F13, g_size_of := PySem.W.mg_of X G a13, b_size_of := F13.binds (ps := ["pattern"]) (fun _ _ _ _ _ _ us hl => match us, hl with | [_], _ => rfl)
    f_cells_of := _, fd_cells_of := _, F_cells_of := F14, g_cells_of := PySem.W.mg_of X G a14, b_cells_of := F14.binds (ps := ["patch"]) (fun _ _ _ _ _ _ us hl => match us, hl with | [_], _ => rfl)
    f_is_fabric := _, fd_is_fabric := _, F_is_fabric := F15, g_is_fabric := PySem.W.mg_of X G a15, b_is_fabric := F15.binds (ps := ["word"]) (fun _ _ _ _ _ _ us hl => match us, hl with | [_], _ => rfl)
    f_can_be_cut := _, fd_can_be_cut := _, F_can_be_cut := F16, g_can_be_cut := PySem.W.mg_of X G a16, b_can_be_cut := F16.binds (ps := ["pattern", "patch"]) (fun _ _ _ _ _ _ us hl => match us, hl with | [_, _], _ => rfl)
    f_fits := _, fd_fits := _, F_fits := F17, g_fits := PySem.W.mg_of X G a17, b_fits := F17.binds (ps := ["pattern", "patches"]) (fun _ _ _ _ _ _ us hl => match us, hl with | [_, _], _ => rfl)
    f_check_fit := _, fd_check_fit := _, F_check_fit := F18, g_check_fit := PySem.W.mg_of X G a18, b_check_fit := F18.binds (ps := ["pattern", "patches"]) (fun _ _ _ _ _ _ us hl => match us, hl with | [_, _], _ => rfl)
    f_cell_of := _, fd_cell_of := _, F_cell_of := F19, g_cell_of := PySem.W.mg_of X G a19, b_cell_of := F19.binds (ps := ["pattern", "patch"]) (fun _ _ _ _ _ _ us hl => match us, hl with | [_, _], _ => rfl)
    f_triangle_side := _, fd_triangle_side := _, F_triangle_side := F20, g_triangle_side := PySem.W.mg_of X G a20, b_triangle_side := F20.binds (ps := ["cell_size", "allowance"]) (fun _ _ _ _ _ _ us hl => match us, hl with | [_, _], _ => rfl)
    f_plain_piece := _, fd_plain_piece := _, F_plain_piece := F21, g_plain_piece := PySem.W.mg_of X G a21, b_plain_piece := F21.binds (ps := ["patch", "cell_size", "allowance"]) (fun _ _ _ _ _ _ us hl => match us, hl with | [_, _, _], _ => rfl)
    f_halves := _, fd_halves := _, F_halves := F22, g_halves := PySem.W.mg_of X G a22, b_halves := F22.binds (ps := ["cell"]) (fun _ _ _ _ _ _ us hl => match us, hl with | [_], _ => rfl)
    f_areas_of_patch := _, fd_areas_of_patch := _, F_areas_of_patch := F23, g_areas_of_patch := PySem.W.mg_of X G a23, b_areas_of_patch := F23.binds (ps := ["pattern", "patch", "cell_size", "allowance"]) (fun _ _ _ _ _ _ us hl => match us, hl with | [_, _, _, _], _ => rfl)
    f_fabric_needed := _, fd_fabric_needed := _, F_fabric_needed := F24, g_fabric_needed := PySem.W.mg_of X G a24, b_fabric_needed := F24.binds (ps := ["pattern", "patches", "cell_size", "allowance"]) (fun _ _ _ _ _ _ us hl => match us, hl with | [_, _, _, _], _ => rfl)
    f_less := _, fd_less := _, F_less := F25, g_less := PySem.W.mg_of X G a25, b_less := F25.binds (ps := ["areas"]) (fun _ _ _ _ _ _ us hl => match us, hl with | [_], _ => rfl)
    f_Workroom_take := _, fd_Workroom_take := _, F_Workroom_take := F26, b_Workroom_take := F26.binds (ps := ["self", "pattern", "patches", "cell_size", "allowance"]) (fun _ _ _ _ _ _ us hl => match us, hl with | [_, _, _, _, _], _ => rfl), m_Workroom_take := ⟨a26, mi26, k26⟩
    f_with_state := _, fd_with_state := _, F_with_state := F27, g_with_state := PySem.W.mg_of X G a27, b_with_state := F27.binds (ps := ["orders", "number", "state"]) (fun _ _ _ _ _ _ us hl => match us, hl with | [_, _, _], _ => rfl)
    f_Workroom_cancel := _, fd_Workroom_cancel := _, F_Workroom_cancel := F28, b_Workroom_cancel := F28.binds (ps := ["self", "order"]) (fun _ _ _ _ _ _ us hl => match us, hl with | [_, _], _ => rfl), m_Workroom_cancel := ⟨a28, mi28, k28⟩
    f_rectangle_of := _, fd_rectangle_of := _, F_rectangle_of := F29, g_rectangle_of := PySem.W.mg_of X G a29, b_rectangle_of := F29.binds (ps := ["section"]) (fun _ _ _ _ _ _ us hl => match us, hl with | [_], _ => rfl)
    f_in_order := _, fd_in_order := _, F_in_order := F30, g_in_order := PySem.W.mg_of X G a30, b_in_order := F30.binds (ps := ["sections"]) (fun _ _ _ _ _ _ us hl => match us, hl with | [_], _ => rfl)
    f_first_sections := _, fd_first_sections := _, F_first_sections := F31, g_first_sections := PySem.W.mg_of X G a31, b_first_sections := F31.binds (ps := ["patches"]) (fun _ _ _ _ _ _ us hl => match us, hl with | [_], _ => rfl)
    f_Assembly___init__ := _, fd_Assembly___init__ := _, F_Assembly___init__ := F32, b_Assembly___init__ := F32.binds (ps := ["self", "pattern", "patches"]) (fun _ _ _ _ _ _ us hl => match us, hl with | [_, _, _], _ => rfl), mk_Assembly := ⟨cmk0, a32, mi32, ckc0⟩
    f_Assembly___len__ := _, fd_Assembly___len__ := _, F_Assembly___len__ := F33, b_Assembly___len__ := F33.binds (ps := ["self"]) (fun _ _ _ _ _ _ us hl => match us, hl with | [_], _ => rfl), sp_Assembly___len__ := ⟨a33, mn33, mi33⟩
    f_Assembly_pattern := _, fd_Assembly_pattern := _, F_Assembly_pattern := F34, b_Assembly_pattern := F34.binds (ps := ["self"]) (fun _ _ _ _ _ _ us hl => match us, hl with | [_], _ => rfl), pa_Assembly_pattern := _, po_Assembly_pattern := ⟨a34, mg34, mt34, ⟨_, mr34⟩⟩
    f_Assembly_patches := _, fd_Assembly_patches := _, F_Assembly_patches := F35, b_Assembly_patches := F35.binds (ps := ["self"]) (fun _ _ _ _ _ _ us hl => match us, hl with | [_], _ => rfl), pa_Assembly_patches := _, po_Assembly_patches := ⟨a35, mg35, mt35, ⟨_, mr35⟩⟩
    f_Assembly_sections := _, fd_Assembly_sections := _, F_Assembly_sections := F36, b_Assembly_sections := F36.binds (ps := ["self"]) (fun _ _ _ _ _ _ us hl => match us, hl with | [_], _ => rfl), pa_Assembly_sections := _, po_Assembly_sections := ⟨a36, mg36, mt36, ⟨_, mr36⟩⟩
    f_Assembly_sewn_length := _, fd_Assembly_sewn_length := _, F_Assembly_sewn_length := F37, b_Assembly_sewn_length := F37.binds (ps := ["self"]) (fun _ _ _ _ _ _ us hl => match us, hl with | [_], _ => rfl), pa_Assembly_sewn_length := _, po_Assembly_sewn_length := ⟨a37, mg37, mt37, ⟨_, mr37⟩⟩
    f_Workroom_start := _, fd_Workroom_start := _, F_Workroom_start := F38, b_Workroom_start := F38.binds (ps := ["self", "order"]) (fun _ _ _ _ _ _ us hl => match us, hl with | [_, _], _ => rfl), m_Workroom_start := ⟨a38, mi38, k38⟩
    f_Workroom_undo := _, fd_Workroom_undo := _, F_Workroom_undo := F39, b_Workroom_undo := F39.binds (ps := ["self"]) (fun _ _ _ _ _ _ us hl => match us, hl with | [_], _ => rfl), m_Workroom_undo := ⟨a39, mi39, k39⟩
    f_Workroom___len__ := _, fd_Workroom___len__ := _, F_Workroom___len__ := F40, b_Workroom___len__ := F40.binds (ps := ["self"]) (fun _ _ _ _ _ _ us hl => match us, hl with | [_], _ => rfl), sp_Workroom___len__ := ⟨a40, mn40, mi40⟩
    f__law_do := _, fd__law_do := _, F__law_do := F41, g__law_do := PySem.W.mg_of X G a41, b__law_do := F41.binds (ps := ["room", "kind", "arguments"]) (fun _ _ _ _ _ _ us hl => match us, hl with | [_, _, _], _ => rfl)
    n_all := PySem.W.mg_none_of X G z0
    n_any := PySem.W.mg_none_of X G z1
    n_bool := PySem.W.mg_none_of X G z2
    n_dict := PySem.W.mg_none_of X G z3
    n_enumerate := PySem.W.mg_none_of X G z4
    n_int := PySem.W.mg_none_of X G z5
    n_isinstance := PySem.W.mg_none_of X G z6
    n_len := PySem.W.mg_none_of X G z7
    n_list := PySem.W.mg_none_of X G z8
    n_max := PySem.W.mg_none_of X G z9
    n_range := PySem.W.mg_none_of X G z10
    n_sorted := PySem.W.mg_none_of X G z11
    n_sum := PySem.W.mg_none_of X G z12
    n_tuple := PySem.W.mg_none_of X G z13
    v_LETTERS := .str "abcdefghijklmnopqrstuvwxyz", u_LETTERS := _, g_LETTERS := PySem.W.mg_of X G q0, r_LETTERS := ⟨_, rfl⟩, d_LETTERS := fun _ => .str _
    v_ORDERS := .int 60, u_ORDERS := _, g_ORDERS := PySem.W.mg_of X G q1, r_ORDERS := ⟨_, rfl⟩, d_ORDERS := fun _ => .int _
    v_STOCK := .int 1000000000, u_STOCK := _, g_STOCK := PySem.W.mg_of X G q2, r_STOCK := ⟨_, rfl⟩, d_STOCK := fun _ => .int _
    v_WAITING := .str "waiting", u_WAITING := _, g_WAITING := PySem.W.mg_of X G q3, r_WAITING := ⟨_, rfl⟩, d_WAITING := fun _ => .str _
    v_STARTED := .str "started", u_STARTED := _, g_STARTED := PySem.W.mg_of X G q4, r_STARTED := ⟨_, rfl⟩, d_STARTED := fun _ => .str _
    v_CANCELED := .str "canceled", u_CANCELED := _, g_CANCELED := PySem.W.mg_of X G q5, r_CANCELED := ⟨_, rfl⟩, d_CANCELED := fun _ => .str _
  }
  exact ⟨PySem.W.fnOf "law" "law" (defArgs s_law) (defBody s_law) (defScope s_law) .none kV42 dc42 pm42 an42 cd42 ct42, fun s v => .of_eq rfl, fun base _ _ => ok_law T F42⟩
end G
open PySem PySem.W PyProof.Rows
set_option maxHeartbeats 0 in
theorem PySem.Challenge.cw_sewnwhole_k65_limits_of_a_workroom_holds : PySem.Challenge.rw_sewnwhole_k65_limits_of_a_workroom.Holds := by
  w_on; refine G.law_top fun said => ?_; k_head; (case hw => w_witness2)
  k_fill
  refine L2.walk_of (l := PySem.Challenge.rw_sewnwhole_k65_limits_of_a_workroom) (n := 63) (k := 10) (x := "script") (CX := fun _ => L2.CX0) (sp := fun w => DD.spD _ G.F_law) rfl (by decide) rfl ⟨rfl, by decide, by decide⟩ (fun w h Y => PySem.W.kIn_of Y) ?F (fun _ H a ns hl _ hS => ⟨H, [.lst (ns.map DD.D.int)], .bl true, Evl.Ex.refl H, .cons (.lst hS (G.rp_ints ns)) .nil, G.law_true ns hl, fun v B' H' _ r => by cases r; rfl⟩) (fun _ _ _ _ _ h => h)
  case F =>
    intro w mg fa h KX hG hmg
    refine' G.all_mk KX hG hmg ?ca0 ?cpg0 ?chd0 ?cpo0 ?csa0 ?cmk0 ?ckc0 ?cno0_0 ?cno0_1 ?cno0_2 ?cno0_3 ?ca1 ?cpg1 ?chd1 ?cpo1 ?csa1 ?cmk1 ?ckc1 ?cno1_0 ?cno1_1 ?cno1_2 ?cno1_3 ?a0 ?l0 ?c0 ?k0 ?a1 ?l1 ?c1 ?k1 ?a2 ?mi2 ?l2 ?c2 ?k2 ?a3 ?mg3 ?mt3 ?mr3 ?l3 ?c3 ?k3 ?a4 ?mg4 ?mt4 ?mr4 ?l4 ?c4 ?k4 ?a5 ?l5 ?c5 ?k5 ?a6 ?mg6 ?mt6 ?mr6 ?l6 ?c6 ?k6 ?a7 ?mi7 ?l7 ?c7 ?k7 ?a8 ?mi8 ?mn8 ?l8 ?c8 ?k8 ?a9 ?mi9 ?l9 ?c9 ?k9 ?a10 ?l10 ?c10 ?k10 ?a11 ?mi11 ?l11 ?c11 ?k11 ?a12 ?l12 ?c12 ?k12 ?a13 ?l13 ?c13 ?k13 ?a14 ?l14 ?c14 ?k14 ?a15 ?l15 ?c15 ?k15 ?a16 ?l16 ?c16 ?k16 ?a17 ?l17 ?c17 ?k17 ?a18 ?l18 ?c18 ?k18 ?a19 ?l19 ?c19 ?k19 ?a20 ?l20 ?c20 ?k20 ?a21 ?l21 ?c21 ?k21 ?a22 ?l22 ?c22 ?k22 ?a23 ?l23 ?c23 ?k23 ?a24 ?l24 ?c24 ?k24 ?a25 ?l25 ?c25 ?k25 ?a26 ?mi26 ?l26 ?c26 ?k26 ?a27 ?l27 ?c27 ?k27 ?a28 ?mi28 ?l28 ?c28 ?k28 ?a29 ?l29 ?c29 ?k29 ?a30 ?l30 ?c30 ?k30 ?a31 ?l31 ?c31 ?k31 ?a32 ?mi32 ?l32 ?c32 ?k32 ?a33 ?mi33 ?mn33 ?l33 ?c33 ?k33 ?a34 ?mg34 ?mt34 ?mr34 ?l34 ?c34 ?k34 ?a35 ?mg35 ?mt35 ?mr35 ?l35 ?c35 ?k35 ?a36 ?mg36 ?mt36 ?mr36 ?l36 ?c36 ?k36 ?a37 ?mg37 ?mt37 ?mr37 ?l37 ?c37 ?k37 ?a38 ?mi38 ?l38 ?c38 ?k38 ?a39 ?mi39 ?l39 ?c39 ?k39 ?a40 ?mi40 ?mn40 ?l40 ?c40 ?k40 ?a41 ?l41 ?c41 ?k41 ?a42 ?l42 ?c42 ?k42 ?q0 ?q1 ?q2 ?q3 ?q4 ?q5 ?xsup ?xany ?xtop ?xa0 ?xL0 ?xs0 ?xg0 ?xh0 ?xn0_0 ?xi0 ?xt0 ?xl0 ?xd0 ?xo0 ?xv0 ?xf0 ?xc0 ?xm0 ?xu0 ?xw0 ?xk0 ?xe0 ?xy0 ?xz0 ?xq0 ?xr0 ?xa1 ?xL1 ?xs1 ?xg1 ?xh1 ?xn1_0 ?xi1 ?xt1 ?xl1 ?xd1 ?xo1 ?xv1 ?xf1 ?xc1 ?xm1 ?xu1 ?xw1 ?xk1 ?xe1 ?xy1 ?xz1 ?xq1 ?xr1 ?jA1 ?jM1 ?jN ?jT ?ya0 ?yb0 ?yc0 ?yt0 ?ya1 ?yb1 ?yc1 ?yt1 ?ya2 ?yb2 ?yc2 ?yt2 ?ya3 ?yb3 ?yc3 ?yt3 ?yp1_0 ?yp1_1 ?yp1_2 ?yp1_3 ?z0 ?z1 ?z2 ?z3 ?z4 ?z5 ?z6 ?z7 ?z8 ?z9 ?z10 ?z11 ?z12 ?z13
    (case ca0 => k_is); (case cpg0 => k_is); (case chd0 => k_is); (case cpo0 => k_is); (case csa0 => k_is); (case cmk0 => k_is); (case ckc0 => k_is); (case cno0_0 => k_is); (case cno0_1 => k_is); (case cno0_2 => k_is); (case cno0_3 => k_is); (case ca1 => k_is); (case cpg1 => k_is); (case chd1 => k_is); (case cpo1 => k_is); (case csa1 => k_is); (case cmk1 => k_is); (case ckc1 => k_is); (case cno1_0 => k_is); (case cno1_1 => k_is); (case cno1_2 => k_is); (case cno1_3 => k_is); (case a0 => k_is); (case l0 => k_is); (case c0 => k_is); (case k0 => k_is); (case a1 => k_is); (case l1 => k_is); (case c1 => k_is); (case k1 => k_is); (case a2 => k_is); (case mi2 => k_is); (case l2 => k_is); (case c2 => k_is); (case k2 => k_is); (case a3 => k_is); (case mg3 => k_is); (case mt3 => k_is); (case mr3 => k_is); (case l3 => k_is); (case c3 => k_is); (case k3 => k_is); (case a4 => k_is); (case mg4 => k_is); (case mt4 => k_is); (case mr4 => k_is); (case l4 => k_is); (case c4 => k_is); (case k4 => k_is); (case a5 => k_is); (case l5 => k_is); (case c5 => k_is); (case k5 => k_is); (case a6 => k_is); (case mg6 => k_is); (case mt6 => k_is); (case mr6 => k_is); (case l6 => k_is); (case c6 => k_is); (case k6 => k_is); (case a7 => k_is); (case mi7 => k_is); (case l7 => k_is); (case c7 => k_is); (case k7 => k_is); (case a8 => k_is); (case mi8 => k_is); (case mn8 => k_is); (case l8 => k_is); (case c8 => k_is); (case k8 => k_is); (case a9 => k_is); (case mi9 => k_is); (case l9 => k_is); (case c9 => k_is); (case k9 => k_is); (case a10 => k_is); (case l10 => k_is); (case c10 => k_is); (case k10 => k_is); (case a11 => k_is); (case mi11 => k_is); (case l11 => k_is); (case c11 => k_is); (case k11 => k_is); (case a12 => k_is); (case l12 => k_is); (case c12 => k_is); (case k12 => k_is); (case a13 => k_is); (case l13 => k_is); (case c13 => k_is); (case k13 => k_is); (case a14 => k_is); (case l14 => k_is); (case c14 => k_is); (case k14 => k_is); (case a15 => k_is); (case l15 => k_is); (case c15 => k_is); (case k15 => k_is); (case a16 => k_is); (case l16 => k_is); (case c16 => k_is); (case k16 => k_is); (case a17 => k_is); (case l17 => k_is); (case c17 => k_is); (case k17 => k_is); (case a18 => k_is); (case l18 => k_is); (case c18 => k_is); (case k18 => k_is); (case a19 => k_is); (case l19 => k_is); (case c19 => k_is); (case k19 => k_is); (case a20 => k_is); (case l20 => k_is); (case c20 => k_is); (case k20 => k_is); (case a21 => k_is); (case l21 => k_is); (case c21 => k_is); (case k21 => k_is); (case a22 => k_is); (case l22 => k_is); (case c22 => k_is); (case k22 => k_is); (case a23 => k_is); (case l23 => k_is); (case c23 => k_is); (case k23 => k_is); (case a24 => k_is); (case l24 => k_is); (case c24 => k_is); (case k24 => k_is); (case a25 => k_is); (case l25 => k_is); (case c25 => k_is); (case k25 => k_is); (case a26 => k_is); (case mi26 => k_is); (case l26 => k_is); (case c26 => k_is); (case k26 => k_is); (case a27 => k_is); (case l27 => k_is); (case c27 => k_is); (case k27 => k_is); (case a28 => k_is); (case mi28 => k_is); (case l28 => k_is); (case c28 => k_is); (case k28 => k_is); (case a29 => k_is); (case l29 => k_is); (case c29 => k_is); (case k29 => k_is); (case a30 => k_is); (case l30 => k_is); (case c30 => k_is); (case k30 => k_is); (case a31 => k_is); (case l31 => k_is); (case c31 => k_is); (case k31 => k_is); (case a32 => k_is); (case mi32 => k_is); (case l32 => k_is); (case c32 => k_is); (case k32 => k_is); (case a33 => k_is); (case mi33 => k_is); (case mn33 => k_is); (case l33 => k_is); (case c33 => k_is); (case k33 => k_is); (case a34 => k_is); (case mg34 => k_is); (case mt34 => k_is); (case mr34 => k_is); (case l34 => k_is); (case c34 => k_is); (case k34 => k_is); (case a35 => k_is); (case mg35 => k_is); (case mt35 => k_is); (case mr35 => k_is); (case l35 => k_is); (case c35 => k_is); (case k35 => k_is); (case a36 => k_is); (case mg36 => k_is); (case mt36 => k_is); (case mr36 => k_is); (case l36 => k_is); (case c36 => k_is); (case k36 => k_is); (case a37 => k_is); (case mg37 => k_is); (case mt37 => k_is); (case mr37 => k_is); (case l37 => k_is); (case c37 => k_is); (case k37 => k_is); (case a38 => k_is); (case mi38 => k_is); (case l38 => k_is); (case c38 => k_is); (case k38 => k_is); (case a39 => k_is); (case mi39 => k_is); (case l39 => k_is); (case c39 => k_is); (case k39 => k_is); (case a40 => k_is); (case mi40 => k_is); (case mn40 => k_is); (case l40 => k_is); (case c40 => k_is); (case k40 => k_is); (case a41 => k_is); (case l41 => k_is); (case c41 => k_is); (case k41 => k_is); (case a42 => k_is); (case l42 => k_is); (case c42 => k_is); (case k42 => k_is)
    (case q0 => k_is)
    (case q1 => k_is)
    (case q2 => k_is)
    (case q3 => k_is)
    (case q4 => k_is)
    (case q5 => k_is)
    (case xsup => k_is)
    (case xany => k_is)
    (case xtop => first | rfl | decide +kernel)
    (case xa0 => k_is)
    (case xL0 => k_is)
    (case xs0 => k_is)
    (case xg0 => k_is)
    (case xh0 => k_is)
    (case xn0_0 => k_is)
    (case xi0 => k_is)
    (case xt0 => k_is)
    (case xl0 => k_is)
    (case xd0 => k_is)
    (case xo0 => k_is)
    (case xv0 => rfl)
    (case xf0 => first | rfl | decide +kernel)
    (case xc0 => k_is)
    (case xm0 => k_is)
    (case xu0 => ks_is)
    (case xw0 => k_is)
    (case xk0 => k_is)
    (case xe0 => k_is)
    (case xy0 => k_is)
    (case xz0 => k_is)
    (case xq0 => k_is)
    (case xr0 => first | rfl | k_is)
    (case xa1 => k_is)
    (case xL1 => k_is)
    (case xs1 => k_is)
    (case xg1 => k_is)
    (case xh1 => k_is)
    (case xn1_0 => k_is)
    (case xi1 => k_is)
    (case xt1 => k_is)
    (case xl1 => k_is)
    (case xd1 => k_is)
    (case xo1 => k_is)
    (case xv1 => rfl)
    (case xf1 => first | rfl | decide +kernel)
    (case xc1 => k_is)
    (case xm1 => k_is)
    (case xu1 => ks_is)
    (case xw1 => k_is)
    (case xk1 => k_is)
    (case xe1 => k_is)
    (case xy1 => k_is)
    (case xz1 => k_is)
    (case xq1 => k_is)
    (case xr1 => first | rfl | k_is)
    (case jA1 => k_is)
    (case jM1 => k_is)
    (case jN => first | k_is | rfl)
    (case jT => first | k_is | rfl)
    (case ya0 => k_is)
    (case yb0 => k_is)
    (case yc0 => k_is)
    (case yt0 => k_is)
    (case ya1 => k_is)
    (case yb1 => k_is)
    (case yc1 => k_is)
    (case yt1 => k_is)
    (case ya2 => k_is)
    (case yb2 => k_is)
    (case yc2 => k_is)
    (case yt2 => k_is)
    (case ya3 => k_is)
    (case yb3 => k_is)
    (case yc3 => k_is)
    (case yt3 => k_is)
    (case yp1_0 => first | rfl | k_is)
    (case yp1_1 => first | rfl | k_is)
    (case yp1_2 => first | rfl | k_is)
    (case yp1_3 => first | rfl | k_is)
    (case z0 => k_is); (case z1 => k_is); (case z2 => k_is); (case z3 => k_is); (case z4 => k_is); (case z5 => k_is); (case z6 => k_is); (case z7 => k_is); (case z8 => k_is); (case z9 => k_is); (case z10 => k_is); (case z11 => k_is); (case z12 => k_is); (case z13 => k_is)

