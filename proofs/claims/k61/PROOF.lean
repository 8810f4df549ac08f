import PyProof.Rows.All
import Wide.All
import OpenK.AllK
import Wide.FinOn
import HandS.ForMost
import HandS.Evl
import HandS.Conv
import HandS.More
import HandS.Deep
import HandS.Steps
import HandS.Style
import HandS.Zip
import HandS.Replace
import HandS.Star
import KE.GoesMore
import KE.KDictZip
import KE.KItemsList
import HandS.List
import KE.KRevSl
import HandS.Sort
import KE.GoesEnumKw
import HandS.Iter
import KE.LtData
import HandS.SortKw
import KE.DataMinKey
import HandS.OwnIter
import KE.DataMinMax
import HandS.TupMul
import HandS.TupAny
import KE.GoesEnum
import HandS.Strs
import HandS.SetBool
import HandS.Flow
import HandS.TupLen
import KE.KExcSuper
import HandS.ExcInit
import HandS.Nested
import HandS.FStr
import HandS.Exc
import HandS.ExcOwn
import HandS.ExcField
import HandS.WordsExc
import KE.RegKSuper
import KE.KTryMore
import KE.SortData
import HandS.CallLocal
import KE.KxIndex
import HandS.Defaults
import HandS.MakeKwOnly
import KE.KDictSum
import HandS.ForDict
import HandS.Comp
import HandS.Dict
import HandS.DictComp
import HandS.Small
import PyProof.P3Eq
import PyProof.Claim2Refuses
import KE.KDictWalk
import HandS.SetKeys
import PyProof.EnumMake
import KE.KDictDisplayH
import HandS.Codes
import PySem.Challenge.RW_sewnwhole_k61_cuttings_of_anybody
set_option Elab.async false
set_option linter.all false
set_option maxRecDepth 100000
set_option maxHeartbeats 4000000
namespace G
open PySem PySem.W PyProof.Rows in
set_option maxHeartbeats 0 in
theorem law_top (h : PySem.Challenge.rw_sewnwhole_k61_cuttings_of_anybody.row.wellSaid = true → PySem.Challenge.rw_sewnwhole_k61_cuttings_of_anybody.row.Holds) : PySem.Challenge.rw_sewnwhole_k61_cuttings_of_anybody.Holds := by
  w_on; o_law; exact h (by assumption)
end G
namespace DD
open PySem PySem.Spec PyProof.Rows L2 Evl

inductive D where
  | non | bl (b : Bool) | int (i : Int) | str (x : Str) | lst (ds : List D) | tup (ds : List D) | dic (ks : List Key) (ds : List D) | dit (ks : List (List Key)) (ds : List D) | fn (x : Str) | ctp (ds : List D)

mutual
inductive Rp (K : PySem.W.Frag) (H : Hp) : V → D → Prop
  | non : Rp K H .non .non
  | bl (b : Bool) : Rp K H (.bl b) (.bl b)
  | int (i : Int) : Rp K H (.int i) (.int i)
  | str (x : Str) : Rp K H (.str x) (.str x)
  | lst {a : Addr} {xs : List V} {ds : List D} : SqL K H a xs → RpAll K H xs ds → Rp K H (.ref a) (.lst ds)
  | tup {a : Addr} {xs : List V} {ds : List D} : H a = some (.tup xs) → RpAll K H xs ds → Rp K H (.ref a) (.tup ds)
  | ctp {a : Addr} {xs : List V} {ds : List D} : SqT K H a xs → RpAll K H xs ds → Rp K H (.ref a) (.ctp ds)
  | dic {a : Addr} {kvs : List (Key × V)} {ds : List D} : Rd H a (.dK kvs) → RpAll K H (kvs.map (·.2)) ds → Rp K H (.ref a) (.dic (kvs.map (·.1)) ds)
  | dit {a : Addr} {kvs : List (List Key × V)} {ds : List D} : Rd H a (.dT kvs) → RpAll K H (kvs.map (·.2)) ds → Rp K H (.ref a) (.dit (kvs.map (·.1)) ds)
  | fn {a : Addr} (x : Str) : PySem.W.nsIn K mainGlobals x = some (some (.ref a)) → Rp K H (.ref a) (.fn x)
inductive RpAll (K : PySem.W.Frag) (H : Hp) : List V → List D → Prop
  | nil : RpAll K H [] []
  | cons {v : V} {vs : List V} {d : D} {ds : List D} : Rp K H v d → RpAll K H vs ds → RpAll K H (v :: vs) (d :: ds)
end

section
variable {K : PySem.W.Frag} {H H' B B' : Hp}
mutual
theorem Rp.ex (e : Ex H H') : ∀ (d : D) (v : V), Rp K H v d → Rp K H' v d
  | .non, _, h => by cases h; exact .non
  | .bl _, _, h => by cases h; exact .bl _
  | .int _, _, h => by cases h; exact .int _
  | .str _, _, h => by cases h; exact .str _
  | .lst ds, _, h => by cases h with | lst a b => exact .lst (ex_l e a) (RpAll.ex e ds _ b)
  | .tup ds, _, h => by cases h with | tup a b => exact .tup (e _ _ a) (RpAll.ex e ds _ b)
  | .ctp ds, _, h => by cases h with | ctp a b => exact .ctp (ex_t e a) (RpAll.ex e ds _ b)
  | .dic _ ds, _, h => by cases h with | dic a b => exact .dic (ex_rd e a) (RpAll.ex e ds _ b)
  | .dit _ ds, _, h => by cases h with | dit a b => exact .dit (ex_rd e a) (RpAll.ex e ds _ b)
  | .fn _, _, h => by cases h with | fn _ a => exact .fn _ a
theorem RpAll.ex (e : Ex H H') : ∀ (ds : List D) (vs : List V), RpAll K H vs ds → RpAll K H' vs ds
  | [], _, h => by cases h; exact .nil
  | d :: ds, _, h => by cases h with | cons a b => exact .cons (Rp.ex e d _ a) (RpAll.ex e ds _ b)
end
theorem Rp.up {v : V} {d : D} (h : Rp K H v d) (e : Ex H H') : Rp K H' v d := Rp.ex e d v h
theorem RpAll.up {v : List V} {d : List D} (h : RpAll K H v d) (e : Ex H H') : RpAll K H' v d := RpAll.ex e d v h
theorem RpAll.len : ∀ {vs : List V} {ds : List D}, RpAll K H vs ds → vs.length = ds.length
  | _, _, .nil => rfl
  | _, _, .cons _ t => congrArg (· + 1) (RpAll.len t)
theorem RpAll.get : ∀ {vs : List V} {ds : List D} (i : Nat) {d : D}, RpAll K H vs ds → ds[i]? = some d → ∃ v, vs[i]? = some v ∧ Rp K H v d
  | _, _, _, _, .nil, e => by simp at e
  | _, _, 0, _, .cons r _, e => by simp at e; subst e; exact ⟨_, rfl, r⟩
  | _, _, i + 1, d, .cons _ t, e => by
    obtain ⟨v, h1, h2⟩ := RpAll.get i (d := d) t (by simpa using e)
    exact ⟨v, by simpa using h1, h2⟩
theorem RpAll.app : ∀ {vs ws : List V} {ds es : List D}, RpAll K H vs ds → RpAll K H ws es → RpAll K H (vs ++ ws) (ds ++ es)
  | _, _, _, _, .nil, s => s
  | _, _, _, _, .cons r t, s => .cons r (RpAll.app t s)
theorem RpAll.tk : ∀ {vs : List V} {ds : List D} (n : Nat), RpAll K H vs ds → RpAll K H (vs.take n) (ds.take n)
  | _, _, 0, _ => .nil
  | _, _, _ + 1, .nil => .nil
  | _, _, n + 1, .cons r t => .cons r (RpAll.tk n t)
theorem RpAll.dp : ∀ {vs : List V} {ds : List D} (n : Nat), RpAll K H vs ds → RpAll K H (vs.drop n) (ds.drop n)
  | _, _, 0, r => r
  | _, _, _ + 1, .nil => .nil
  | _, _, n + 1, .cons _ t => RpAll.dp n t
theorem RpAll.st {v : V} {d : D} (r : Rp K H v d) : ∀ {vs : List V} {ds : List D} (i : Nat), RpAll K H vs ds → RpAll K H (vs.set i v) (ds.set i d)
  | _, _, _, .nil => .nil
  | _, _, 0, .cons _ t => .cons r t
  | _, _, i + 1, .cons q t => .cons q (RpAll.st r i t)
theorem RpAll.rev : ∀ {vs : List V} {ds : List D}, RpAll K H vs ds → RpAll K H vs.reverse ds.reverse
  | _, _, .nil => .nil
  | _, _, .cons r t => by
    rw [List.reverse_cons, List.reverse_cons]
    exact (RpAll.rev t).app (.cons r .nil)

@[simp] def D.flat : D → Bool
  | .non => true | .bl _ => true | .int _ => true | .str _ => true | _ => false
def D.v : D → V
  | .non => .non | .bl b => .bl b | .int i => .int i | .str x => .str x | _ => .non
theorem Rp.flat {v : V} {d : D} (h : Rp K H v d) (f : d.flat = true) : v = d.v := by
  cases h <;> first | rfl | cases f
theorem Rp.of_flat {d : D} (f : d.flat = true) : Rp K H d.v d := by
  cases d <;> first | exact .non | exact .bl _ | exact .int _ | exact .str _ | cases f

def Mt (H : Hp) (q : Addr) : Prop := H q ≠ none ∧ ∀ xs, H q ≠ some (.tup xs)
structure Ext (B H B' H' : Hp) : Prop where
  bb : Ex B B'
  bh : Ex B' H'
  hh : Ex H H'
  st : ∀ q, Mt H q → B' q = B q
theorem Ext.refl (e : Ex B H) : Ext B H B H := ⟨Ex.refl _, e, Ex.refl _, fun _ _ => rfl⟩
theorem Ex.ne {q : Addr} (e : Ex H H') (h : H q ≠ none) : H' q ≠ none := by
  intro z
  exact h (fresh_back e z)
theorem Ex.mt {q : Addr} (e : Ex H H') (h : Mt H q) : Mt H' q := by
  refine ⟨Ex.ne e h.1, fun xs z => ?_⟩
  cases ho : H q with
  | none => exact h.1 ho
  | some o =>
    rw [e q o ho] at z
    exact h.2 xs (ho.trans z)
theorem Ext.trans {B2 H2 : Hp} (a : Ext B H B' H') (b : Ext B' H' B2 H2) : Ext B H B2 H2 :=
  ⟨a.bb.trans b.bb, b.bh, a.hh.trans b.hh, fun q h => (b.st q (Ex.mt a.hh h)).trans (a.st q h)⟩
theorem ne_some {H : Hp} {p : Addr} {o : HO} (h : H p = some o) (ht : ∀ xs, o ≠ .tup xs := by intro _ z; cases z) : Mt H p := by
  refine ⟨fun z => ?_, fun xs z => ?_⟩
  · rw [h] at z; cases z
  · rw [h] at z; exact ht xs (Option.some.inj z)
theorem Ext.tup {q : Addr} {xs : List V} (e : Ex B H) (h : H q = some (.tup xs)) : Ext B H (upd B q (.tup xs)) H := by
  refine ⟨fun a u z => ?_, fun a u z => ?_, Ex.refl _, fun p hp => upd_ne ?_⟩
  · by_cases ha : a = q
    · subst ha; rw [e a u z] at h; cases h; exact upd_same
    · rw [upd_ne ha]; exact z
  · by_cases ha : a = q
    · subst ha; rw [upd_same] at z; cases z; exact h
    · rw [upd_ne ha] at z; exact e a u z
  · rintro rfl; exact hp.2 xs h
theorem Ext.new {p : Addr} {o : HO} (e : Ex B H) (h : H p = none) : Ext B H (upd B p o) (upd H p o) := by
  refine ⟨Ex.new (fresh_back e h), fun a u q => ?_, Ex.new h, fun q hq => upd_ne ?_⟩
  · by_cases ha : a = p
    · subst ha; rw [upd_same] at q ⊢; exact q
    · rw [upd_ne ha] at q ⊢; exact e a u q
  · rintro rfl; exact hq.1 h
theorem Ext.newM {p : Addr} {o : HO} (e : Ex B H) (h : H p = none) : Ext B H B (upd H p o) :=
  ⟨Ex.refl _, e.trans (Ex.new h), Ex.new h, fun _ _ => rfl⟩

end
inductive Tr where
  | lf (d : D) | ls (ts : List Tr) | dk (ks : List Key) (ts : List Tr) | dt (ks : List (List Key)) (ts : List Tr) | ob (C : Str) (ns : List Str) (ts : List Tr)
mutual
inductive Ow (K : PySem.W.Frag) (B H : Hp) : Tr → V → List Addr → Prop
  | lf {v : V} {d : D} : Rp K B v d → Ow K B H (.lf d) v []
  | ls {a : Addr} {vs : List V} {ts : List Tr} {A : List Addr} : B a = none → H a = some (.lst vs) → OwAll K B H ts vs A → a ∉ A → Ow K B H (.ls ts) (.ref a) (a :: A)
  | dk {a : Addr} {ks : List Key} {kvs : List (Key × V)} {ts : List Tr} {A : List Addr} : B a = none → H a = some (.dK kvs) → OwAll K B H ts (kvs.map (·.2)) A → a ∉ A → kvs.map (·.1) = ks → Ow K B H (.dk ks ts) (.ref a) (a :: A)
  | dt {a : Addr} {ks : List (List Key)} {kvs : List (List Key × V)} {ts : List Tr} {A : List Addr} : B a = none → H a = some (.dT kvs) → OwAll K B H ts (kvs.map (·.2)) A → a ∉ A → kvs.map (·.1) = ks → Ow K B H (.dt ks ts) (.ref a) (a :: A)
  | ob {C : Str} {Ca a dx : Addr} {ns : List Str} {fs : List (Str × V)} {ts : List Tr} {A : List Addr} : PySem.W.nsIn K mainGlobals C = some (some (.ref Ca)) → B a = none → B dx = none → H a = some (.ins Ca dx fs) → H dx = some (.own a) → OwAll K B H ts (fs.map (·.2)) A → a ≠ dx → a ∉ A → dx ∉ A → fs.map (·.1) = ns → Ow K B H (.ob C ns ts) (.ref a) (a :: dx :: A)
inductive OwAll (K : PySem.W.Frag) (B H : Hp) : List Tr → List V → List Addr → Prop
  | nil : OwAll K B H [] [] []
  | cons {t : Tr} {v : V} {ts : List Tr} {vs : List V} {A A' : List Addr} : Ow K B H t v A → OwAll K B H ts vs A' → (∀ q ∈ A, q ∉ A') → OwAll K B H (t :: ts) (v :: vs) (A ++ A')
end
mutual
def Tr.d : Tr → Option D
  | .lf d => some d
  | .ls ts => (Tr.dAll ts).map .lst
  | .dk ks ts => (Tr.dAll ts).map (.dic ks)
  | .dt ks ts => (Tr.dAll ts).map (.dit ks)
  | .ob _ _ _ => none
def Tr.dAll : List Tr → Option (List D)
  | [] => some []
  | t :: ts => (Tr.d t).bind fun d => (Tr.dAll ts).map fun ds => d :: ds
end
section
variable {K : PySem.W.Frag} {B H B' H' : Hp}
mutual
theorem Ow.monoR (hB : ∀ (d : D) (v : V), Rp K B v d → Rp K B' v d) : ∀ (t : Tr) (v : V) (A : List Addr), Ow K B H t v A → (∀ q ∈ A, H' q = H q ∧ B' q = none) → Ow K B' H' t v A
  | .lf d, _, _, h, _ => by cases h with | lf r => exact .lf (hB _ _ r)
  | .ls ts, _, _, h, k => by
    cases h with
    | ls a b c d =>
      refine .ls (k _ List.mem_cons_self).2 ?_ (OwAll.monoR hB ts _ _ c fun q hq => k q (List.mem_cons_of_mem _ hq)) d
      rw [(k _ List.mem_cons_self).1]; exact b
  | .dk ks ts, _, _, h, k => by
    cases h with
    | dk a b c d g =>
      refine .dk (k _ List.mem_cons_self).2 ?_ (OwAll.monoR hB ts _ _ c fun q hq => k q (List.mem_cons_of_mem _ hq)) d g
      rw [(k _ List.mem_cons_self).1]; exact b
  | .dt ks ts, _, _, h, k => by
    cases h with
    | dt a b c d g =>
      refine .dt (k _ List.mem_cons_self).2 ?_ (OwAll.monoR hB ts _ _ c fun q hq => k q (List.mem_cons_of_mem _ hq)) d g
      rw [(k _ List.mem_cons_self).1]; exact b
  | .ob C ns ts, _, _, h, k => by
    cases h with
    | ob n a a2 b b2 c d e f g =>
      have k2 := k _ (List.mem_cons_of_mem _ List.mem_cons_self)
      refine .ob n (k _ List.mem_cons_self).2 k2.2 ?_ ?_ (OwAll.monoR hB ts _ _ c fun q hq => k q (List.mem_cons_of_mem _ (List.mem_cons_of_mem _ hq))) d e f g
      · rw [(k _ List.mem_cons_self).1]; exact b
      · rw [k2.1]; exact b2
theorem OwAll.monoR (hB : ∀ (d : D) (v : V), Rp K B v d → Rp K B' v d) : ∀ (ts : List Tr) (vs : List V) (A : List Addr), OwAll K B H ts vs A → (∀ q ∈ A, H' q = H q ∧ B' q = none) → OwAll K B' H' ts vs A
  | [], _, _, h, _ => by cases h; exact .nil
  | t :: ts, _, _, h, k => by
    cases h with
    | cons a b c => exact .cons (Ow.monoR hB t _ _ a fun q hq => k q (List.mem_append_left _ hq)) (OwAll.monoR hB ts _ _ b fun q hq => k q (List.mem_append_right _ hq)) c
end
theorem Ow.mono (hB : Ex B B') (t : Tr) (v : V) (A : List Addr) (w : Ow K B H t v A) (k : ∀ q ∈ A, H' q = H q ∧ B' q = none) : Ow K B' H' t v A := Ow.monoR (fun d v r => r.up hB) t v A w k
theorem OwAll.mono (hB : Ex B B') (t : List Tr) (v : List V) (A : List Addr) (w : OwAll K B H t v A) (k : ∀ q ∈ A, H' q = H q ∧ B' q = none) : OwAll K B' H' t v A := OwAll.monoR (fun d v r => r.up hB) t v A w k
mutual
theorem Ow.free : ∀ (t : Tr) (v : V) (A : List Addr), Ow K B H t v A → ∀ q ∈ A, B q = none ∧ Mt H q
  | .lf d, _, _, h, q, hq => by cases h; exact absurd hq List.not_mem_nil
  | .ls ts, _, _, h, q, hq => by
    cases h with
    | ls a b c d =>
      rcases List.mem_cons.mp hq with rfl | hq
      · exact ⟨a, ne_some b⟩
      · exact OwAll.free ts _ _ c q hq
  | .dk ks ts, _, _, h, q, hq => by
    cases h with
    | dk a b c d g =>
      rcases List.mem_cons.mp hq with rfl | hq
      · exact ⟨a, ne_some b⟩
      · exact OwAll.free ts _ _ c q hq
  | .dt ks ts, _, _, h, q, hq => by
    cases h with
    | dt a b c d g =>
      rcases List.mem_cons.mp hq with rfl | hq
      · exact ⟨a, ne_some b⟩
      · exact OwAll.free ts _ _ c q hq
  | .ob C ns ts, _, _, h, q, hq => by
    cases h with
    | ob n a a2 b b2 c d e f g =>
      rcases List.mem_cons.mp hq with rfl | hq
      · exact ⟨a, ne_some b⟩
      · rcases List.mem_cons.mp hq with rfl | hq
        · exact ⟨a2, ne_some b2⟩
        · exact OwAll.free ts _ _ c q hq
theorem OwAll.free : ∀ (ts : List Tr) (vs : List V) (A : List Addr), OwAll K B H ts vs A → ∀ q ∈ A, B q = none ∧ Mt H q
  | [], _, _, h, q, hq => by cases h; exact absurd hq List.not_mem_nil
  | t :: ts, _, _, h, q, hq => by
    cases h with
    | cons a b c =>
      rcases List.mem_append.mp hq with hq | hq
      · exact Ow.free t _ _ a q hq
      · exact OwAll.free ts _ _ b q hq
end
mutual
theorem Ow.det : ∀ (t : Tr) (v : V) (A A' : List Addr), Ow K B H t v A → Ow K B H t v A' → A = A'
  | .lf d, _, _, _, h, h' => by cases h; cases h'; rfl
  | .ls ts, _, _, _, h, h' => by
    cases h with
    | ls a b c d =>
      cases h' with
      | ls a' b' c' d' =>
        rw [b] at b'
        cases b'
        rw [OwAll.det ts _ _ _ c c']
  | .dk ks ts, _, _, _, h, h' => by
    cases h with
    | dk a b c d g =>
      cases h' with
      | dk a' b' c' d' g' =>
        rw [b] at b'
        cases b'
        rw [OwAll.det ts _ _ _ c c']
  | .dt ks ts, _, _, _, h, h' => by
    cases h with
    | dt a b c d g =>
      cases h' with
      | dt a' b' c' d' g' =>
        rw [b] at b'
        cases b'
        rw [OwAll.det ts _ _ _ c c']
  | .ob C ns ts, _, _, _, h, h' => by
    cases h with
    | ob n a a2 b b2 c d e f g =>
      cases h' with
      | ob n' a' a2' b' b2' c' d' e' f' g' =>
        rw [b] at b'
        cases b'
        rw [OwAll.det ts _ _ _ c c']
theorem OwAll.det : ∀ (ts : List Tr) (vs : List V) (A A' : List Addr), OwAll K B H ts vs A → OwAll K B H ts vs A' → A = A'
  | [], _, _, _, h, h' => by cases h; cases h'; rfl
  | t :: ts, _, _, _, h, h' => by
    cases h with
    | cons a b c =>
      cases h' with
      | cons a' b' c' => rw [Ow.det t _ _ _ a a', OwAll.det ts _ _ _ b b']
end
mutual
theorem Ow.rp {B1 : Hp} (hB : Ex B B1) : ∀ (t : Tr) (v : V) (A : List Addr) (d : D), Ow K B H t v A → (∀ q ∈ A, ∀ o, H q = some o → B1 q = some o) → t.d = some d → Rp K B1 v d
  | .lf d, _, _, _, h, _, e => by cases h with | lf r => rw [Tr.d] at e; cases e; exact r.up hB
  | .ls ts, _, _, _, h, k, e => by
    cases h with
    | ls a b c d =>
      rw [Tr.d] at e
      cases q : Tr.dAll ts with
      | none => rw [q] at e; cases e
      | some ds => rw [q] at e; cases e; exact .lst (SqL.of (k _ List.mem_cons_self _ b)) (OwAll.rp hB ts _ _ _ c (fun q hq => k q (List.mem_cons_of_mem _ hq)) q)
  | .dk ks ts, _, _, _, h, k, e => by
    cases h with
    | dk a b c d g =>
      subst g
      rw [Tr.d] at e
      cases q : Tr.dAll ts with
      | none => rw [q] at e; cases e
      | some ds => rw [q] at e; cases e; exact .dic (.inl (k _ List.mem_cons_self _ b)) (OwAll.rp hB ts _ _ _ c (fun q hq => k q (List.mem_cons_of_mem _ hq)) q)
  | .dt ks ts, _, _, _, h, k, e => by
    cases h with
    | dt a b c d g =>
      subst g
      rw [Tr.d] at e
      cases q : Tr.dAll ts with
      | none => rw [q] at e; cases e
      | some ds => rw [q] at e; cases e; exact .dit (.inl (k _ List.mem_cons_self _ b)) (OwAll.rp hB ts _ _ _ c (fun q hq => k q (List.mem_cons_of_mem _ hq)) q)
  | .ob C ns ts, _, _, _, _, _, e => by rw [Tr.d] at e; cases e
theorem OwAll.rp {B1 : Hp} (hB : Ex B B1) : ∀ (ts : List Tr) (vs : List V) (A : List Addr) (ds : List D), OwAll K B H ts vs A → (∀ q ∈ A, ∀ o, H q = some o → B1 q = some o) → Tr.dAll ts = some ds → RpAll K B1 vs ds
  | [], _, _, _, h, _, e => by cases h; rw [Tr.dAll] at e; cases e; exact .nil
  | t :: ts, _, _, _, h, k, e => by
    cases h with
    | cons a b c =>
      rw [Tr.dAll] at e
      cases q : Tr.d t with
      | none => rw [q] at e; cases e
      | some d =>
        rw [q] at e
        cases q2 : Tr.dAll ts with
        | none => rw [q2] at e; cases e
        | some ds => rw [q2] at e; cases e; exact .cons (Ow.rp hB t _ _ _ a (fun q hq => k q (List.mem_append_left _ hq)) q) (OwAll.rp hB ts _ _ _ b (fun q hq => k q (List.mem_append_right _ hq)) q2)
end
end
inductive Sl where
  | no | dat (d : D) | own (ds : List D) | owd (ks : List Key) (ds : List D) | owt (ks : List (List Key)) (ds : List D) | tre (t : Tr) | par (t : Tr) | ro (t : Tr)
abbrev En := List Sl
def Sl.mut : Sl → Bool
  | .own _ => true | .owd _ _ => true | .owt _ _ => true | .tre _ => true | .par _ => true | _ => false
def SlOk (K : PySem.W.Frag) (B H : Hp) : Sl → Option V → Prop
  | .no, _ => True
  | .dat d, o => ∃ v, o = some v ∧ Rp K B v d
  | .own ds, o => ∃ p vs, o = some (.ref p) ∧ B p = none ∧ H p = some (.lst vs) ∧ RpAll K B vs ds
  | .owd ks ds, o => ∃ p kvs, o = some (.ref p) ∧ B p = none ∧ H p = some (.dK kvs) ∧ kvs.map (·.1) = ks ∧ RpAll K B (kvs.map (·.2)) ds
  | .owt ks ds, o => ∃ p kvs, o = some (.ref p) ∧ B p = none ∧ H p = some (.dT kvs) ∧ kvs.map (·.1) = ks ∧ RpAll K B (kvs.map (·.2)) ds
  | .tre t, o => ∃ v A, o = some v ∧ Ow K B H t v A
  | .par t, o => ∃ v A, o = some v ∧ Ow K B H t v A
  | .ro _, _ => True
def Ft (K : PySem.W.Frag) (B H : Hp) (s : Sl) (o : Option V) (q : Addr) : Prop := match s with
  | .tre t => ∃ v A, o = some v ∧ Ow K B H t v A ∧ q ∈ A
  | .par t => ∃ v A, o = some v ∧ Ow K B H t v A ∧ q ∈ A
  | .own _ => o = some (.ref q)
  | .owd _ _ => o = some (.ref q)
  | .owt _ _ => o = some (.ref q)
  | .no => False
  | .dat _ => False
  | .ro _ => False
structure HB where
  h : Hp
  rt : Nat → V
def HB.of (H : Hp) : HB := ⟨H, fun _ => .non⟩
instance : Coe HB Hp := ⟨HB.h⟩
instance : CoeFun HB (fun _ => Addr → Option HO) := ⟨HB.h⟩
structure EnOk (K : PySem.W.Frag) (B0 : Hp) (H0 : HB) (B H : Hp) (σ : L2.St) (en : En) : Prop where
  ext : Ext B0 H0 B H
  len : σ.length = en.length
  slot : ∀ (i : Nat) (s : Sl) (o : Option V), en[i]? = some s → σ[i]? = some o → SlOk K B H s o
  apart : ∀ (i j : Nat) (si sj : Sl) (oi oj : Option V) (q : Addr), en[i]? = some si → en[j]? = some sj → σ[i]? = some oi → σ[j]? = some oj → Ft K B H si oi q → Ft K B H sj oj q → i = j
  frs : ∀ (i : Nat) (s : Sl) (o : Option V) (q : Addr), en[i]? = some s → σ[i]? = some o → Ft K B H s o q → H0 q = none
  root : ∀ (i : Nat) (t : Tr) (o : Option V), en[i]? = some (.par t) → σ[i]? = some o → o = some (H0.rt i)
  ro : ∀ (i : Nat) (t : Tr) (o : Option V), en[i]? = some (.ro t) → σ[i]? = some o → ∃ v A, o = some v ∧ Ow K B0 H0 t v A
section
variable {K : PySem.W.Frag} {B H B' H' : Hp} {s : Sl} {o : Option V} {q : Addr}
theorem Ft.mut (f : Ft K B H s o q) : s.mut = true := by
  cases s with
  | no => exact f.elim
  | dat d => exact f.elim
  | ro t => exact f.elim
  | _ => rfl
theorem SlOk.free (h : SlOk K B H s o) (f : Ft K B H s o q) : B q = none ∧ Mt H q := by
  cases s with
  | no => exact f.elim
  | dat d => exact f.elim
  | own ds =>
    obtain ⟨p, vs, a, b, c, d⟩ := h
    have f : o = some (.ref q) := f
    rw [a] at f; cases f
    exact ⟨b, ne_some c⟩
  | owd ks ds =>
    obtain ⟨p, vs, a, b, c, d, e⟩ := h
    have f : o = some (.ref q) := f
    rw [a] at f; cases f
    exact ⟨b, ne_some c⟩
  | owt ks ds =>
    obtain ⟨p, vs, a, b, c, d, e⟩ := h
    have f : o = some (.ref q) := f
    rw [a] at f; cases f
    exact ⟨b, ne_some c⟩
  | tre t =>
    obtain ⟨v, A, _, f, hq⟩ := f
    exact Ow.free t v A f q hq
  | par t =>
    obtain ⟨v, A, _, f, hq⟩ := f
    exact Ow.free t v A f q hq
  | ro t => exact f.elim
theorem SlOk.mono (h : SlOk K B H s o) (hB : Ex B B') (k : ∀ q, Ft K B H s o q → H' q = H q ∧ B' q = none) : SlOk K B' H' s o ∧ ∀ q, Ft K B' H' s o q ↔ Ft K B H s o q := by
  cases s with
  | no => exact ⟨trivial, fun q => Iff.rfl⟩
  | dat d => obtain ⟨v, a, b⟩ := h; exact ⟨⟨v, a, b.up hB⟩, fun q => Iff.rfl⟩
  | own ds => obtain ⟨p, vs, a, b, c, d⟩ := h; exact ⟨⟨p, vs, a, (k p a).2, by rw [(k p a).1]; exact c, d.up hB⟩, fun q => Iff.rfl⟩
  | owd ks ds => obtain ⟨p, vs, a, b, c, d, r⟩ := h; exact ⟨⟨p, vs, a, (k p a).2, by rw [(k p a).1]; exact c, d, r.up hB⟩, fun q => Iff.rfl⟩
  | owt ks ds => obtain ⟨p, vs, a, b, c, d, r⟩ := h; exact ⟨⟨p, vs, a, (k p a).2, by rw [(k p a).1]; exact c, d, r.up hB⟩, fun q => Iff.rfl⟩
  | tre t =>
    obtain ⟨v, A, a, w⟩ := h
    have w' : Ow K B' H' t v A := Ow.mono hB t v A w fun q hq => k q ⟨v, A, a, w, hq⟩
    refine ⟨⟨v, A, a, w'⟩, fun q => ⟨fun f => ?_, fun f => ?_⟩⟩
    · obtain ⟨v2, A2, e, f, hq⟩ := f
      rw [a] at e; cases e
      rw [Ow.det t v A2 A f w'] at hq
      exact ⟨v, A, a, w, hq⟩
    · obtain ⟨v2, A2, e, f, hq⟩ := f
      rw [a] at e; cases e
      rw [Ow.det t v A2 A f w] at hq
      exact ⟨v, A, a, w', hq⟩
  | par t =>
    obtain ⟨v, A, a, w⟩ := h
    have w' : Ow K B' H' t v A := Ow.mono hB t v A w fun q hq => k q ⟨v, A, a, w, hq⟩
    refine ⟨⟨v, A, a, w'⟩, fun q => ⟨fun f => ?_, fun f => ?_⟩⟩
    · obtain ⟨v2, A2, e, f, hq⟩ := f
      rw [a] at e; cases e
      rw [Ow.det t v A2 A f w'] at hq
      exact ⟨v, A, a, w, hq⟩
    · obtain ⟨v2, A2, e, f, hq⟩ := f
      rw [a] at e; cases e
      rw [Ow.det t v A2 A f w] at hq
      exact ⟨v, A, a, w', hq⟩
  | ro t => exact ⟨trivial, fun q => Iff.rfl⟩
theorem SlOk.up' (h : SlOk K B H s o) (e : Ext B H B' H') : SlOk K B' H' s o ∧ ∀ q, Ft K B' H' s o q ↔ Ft K B H s o q := h.mono e.bb fun q f => by
  obtain ⟨a, b⟩ := h.free f
  refine ⟨?_, (e.st q b).trans a⟩
  cases c : H q with
  | none => exact absurd c b.1
  | some u => exact e.hh q u c
theorem SlOk.up (h : SlOk K B H s o) (e : Ext B H B' H') : SlOk K B' H' s o := (h.up' e).1
variable {B0 : Hp} {H0 : HB} {σ : L2.St} {en : En}
theorem EnOk.lt (h : EnOk K B0 H0 B H σ en) {i : Nat} {s : Sl} (e : en[i]? = some s) : ∃ o, σ[i]? = some o := by
  obtain ⟨hi, _⟩ := List.getElem?_eq_some_iff.mp e
  exact ⟨σ[i]'(by rw [h.len]; exact hi), List.getElem?_eq_getElem _⟩
theorem EnOk.up (h : EnOk K B0 H0 B H σ en) (e : Ext B H B' H') : EnOk K B0 H0 B' H' σ en :=
  ⟨h.ext.trans e, h.len, fun i s o a b => (h.slot i s o a b).up e, fun i j si sj oi oj q a b c d f g => h.apart i j si sj oi oj q a b c d (((h.slot i si oi a c).up' e).2 q |>.mp f) (((h.slot j sj oj b d).up' e).2 q |>.mp g),
    fun i s o q a b f => h.frs i s o q a b (((h.slot i s o a b).up' e).2 q |>.mp f), h.root, h.ro⟩
theorem EnOk.bh (h : EnOk K B0 H0 B H σ en) : Ex B H := h.ext.bh
theorem EnOk.dat (h : EnOk K B0 H0 B H σ en) {i : Nat} {d : D} (e : en[i]? = some (.dat d)) : ∃ v, σ[i]? = some (some v) ∧ Rp K B v d := by
  obtain ⟨o, ho⟩ := h.lt e
  obtain ⟨v, rfl, r⟩ := h.slot i _ o e ho
  exact ⟨v, ho, r⟩
theorem EnOk.own (h : EnOk K B0 H0 B H σ en) {i : Nat} {ds : List D} (e : en[i]? = some (.own ds)) : ∃ p vs, σ[i]? = some (some (.ref p)) ∧ B p = none ∧ H p = some (.lst vs) ∧ RpAll K B vs ds ∧ H0 p = none := by
  obtain ⟨o, ho⟩ := h.lt e
  obtain ⟨p, vs, rfl, a, b, c⟩ := h.slot i _ o e ho
  exact ⟨p, vs, ho, a, b, c, h.frs i _ _ p e ho rfl⟩
theorem EnOk.owd (h : EnOk K B0 H0 B H σ en) {i : Nat} {ks : List Key} {ds : List D} (e : en[i]? = some (.owd ks ds)) :
    ∃ p kvs, σ[i]? = some (some (.ref p)) ∧ B p = none ∧ H p = some (.dK kvs) ∧ kvs.map (·.1) = ks ∧ RpAll K B (kvs.map (·.2)) ds ∧ H0 p = none := by
  obtain ⟨o, ho⟩ := h.lt e
  obtain ⟨p, vs, rfl, a, b, c, d⟩ := h.slot i _ o e ho
  exact ⟨p, vs, ho, a, b, c, d, h.frs i _ _ p e ho rfl⟩
theorem EnOk.owt (h : EnOk K B0 H0 B H σ en) {i : Nat} {ks : List (List Key)} {ds : List D} (e : en[i]? = some (.owt ks ds)) :
    ∃ p kvs, σ[i]? = some (some (.ref p)) ∧ B p = none ∧ H p = some (.dT kvs) ∧ kvs.map (·.1) = ks ∧ RpAll K B (kvs.map (·.2)) ds ∧ H0 p = none := by
  obtain ⟨o, ho⟩ := h.lt e
  obtain ⟨p, vs, rfl, a, b, c, d⟩ := h.slot i _ o e ho
  exact ⟨p, vs, ho, a, b, c, d, h.frs i _ _ p e ho rfl⟩
theorem EnOk.tre (h : EnOk K B0 H0 B H σ en) {i : Nat} {t : Tr} (e : en[i]? = some (.tre t)) : ∃ v A, σ[i]? = some (some v) ∧ Ow K B H t v A ∧ ∀ q ∈ A, H0 q = none := by
  obtain ⟨o, ho⟩ := h.lt e
  obtain ⟨v, A, rfl, w⟩ := h.slot i _ o e ho
  exact ⟨v, A, ho, w, fun q hq => h.frs i _ _ q e ho ⟨v, A, rfl, w, hq⟩⟩

theorem get_set {α : Type} {l : List α} {i j : Nat} {x y : α} (h : (l.set i x)[j]? = some y) : (j = i ∧ y = x ∧ i < l.length) ∨ (j ≠ i ∧ l[j]? = some y) := by
  by_cases e : j = i
  · subst e
    by_cases hl : j < l.length
    · rw [List.getElem?_set_self hl] at h; exact .inl ⟨rfl, (Option.some.inj h).symm, hl⟩
    · rw [List.getElem?_eq_none (by simpa using hl)] at h; cases h
  · rw [List.getElem?_set_ne (Ne.symm e)] at h; exact .inr ⟨e, h⟩
theorem EnOk.put (h : EnOk K B0 H0 B H σ en) {o : Option V} {s : Sl} (i : Nat) (hs : SlOk K B H s o) (f0 : ∀ q, Ft K B H s o q → H0 q = none)
    (hn : ∀ (j : Nat) (sj : Sl) (oj : Option V), j ≠ i → en[j]? = some sj → σ[j]? = some oj → ∀ q, Ft K B H s o q → ¬ Ft K B H sj oj q) (np : ∀ t, s ≠ .par t := by intro _ z; cases z) (nr : ∀ t, s ≠ .ro t := by intro _ z; cases z) : EnOk K B0 H0 B H (σ.set i o) (en.set i s) := by
  have key : ∀ (j : Nat) (sj : Sl) (oj : Option V), (en.set i s)[j]? = some sj → (σ.set i o)[j]? = some oj → (j = i ∧ sj = s ∧ oj = o) ∨ (j ≠ i ∧ en[j]? = some sj ∧ σ[j]? = some oj) := fun j sj oj a b => by
    rcases get_set a with ⟨rfl, rfl, hl⟩ | ⟨ne, a'⟩
    · rw [List.getElem?_set_self (by rw [h.len]; exact hl)] at b
      cases b
      exact .inl ⟨rfl, rfl, rfl⟩
    · rw [List.getElem?_set_ne (Ne.symm ne)] at b
      exact .inr ⟨ne, a', b⟩
  refine ⟨h.ext, by rw [List.length_set, List.length_set, h.len], fun j sj oj a b => ?_, fun j k sj sk oj ok q a b c d f g => ?_, fun j sj oj q a b f => ?_, fun j t oj a b => ?_, fun j t oj a b => ?_⟩
  · rcases key j sj oj a b with ⟨rfl, rfl, rfl⟩ | ⟨_, a', b'⟩
    · exact hs
    · exact h.slot j sj oj a' b'
  · rcases key j sj oj a c with ⟨rfl, rfl, rfl⟩ | ⟨n1, a', c'⟩
    · rcases key k sk ok b d with ⟨rfl, rfl, rfl⟩ | ⟨n2, b', d'⟩
      · rfl
      · exact (hn k sk ok n2 b' d' q f g).elim
    · rcases key k sk ok b d with ⟨rfl, rfl, rfl⟩ | ⟨n2, b', d'⟩
      · exact (hn j sj oj n1 a' c' q g f).elim
      · exact h.apart j k sj sk oj ok q a' b' c' d' f g
  · rcases key j sj oj a b with ⟨rfl, rfl, rfl⟩ | ⟨_, a', b'⟩
    · exact f0 q f
    · exact h.frs j sj oj q a' b' f
  · rcases key j _ oj a b with ⟨rfl, z, rfl⟩ | ⟨_, a', b'⟩
    · exact (np t z.symm).elim
    · exact h.root j t oj a' b'
  · rcases key j _ oj a b with ⟨rfl, z, rfl⟩ | ⟨_, a', b'⟩
    · exact (nr t z.symm).elim
    · exact h.ro j t oj a' b'
theorem EnOk.set (h : EnOk K B0 H0 B H σ en) {v : V} {d : D} (i : Nat) (r : Rp K B v d) : EnOk K B0 H0 B H (σ.set i (some v)) (en.set i (.dat d)) :=
  h.put i ⟨v, rfl, r⟩ (fun _ f => f.elim) fun _ _ _ _ _ _ _ f _ => f.elim
theorem EnOk.nref (h : EnOk K B0 H0 B H σ en) {p : Addr} (hp : H p = none) (x : Ext B H B' H') : ∀ (j : Nat) (sj : Sl) (oj : Option V), en[j]? = some sj → σ[j]? = some oj → ¬ Ft K B' H' sj oj p := fun j sj oj a b f => by
  have sk := h.slot j sj oj a b
  exact (sk.free (((sk.up' x).2 p).mp f)).2.1 hp
theorem EnOk.setM (h : EnOk K B0 H0 B H σ en) {p : Addr} {s : Sl} (i : Nat) (hs : SlOk K B H s (some (.ref p))) (f0 : H0 p = none)
    (hn : ∀ (j : Nat) (sj : Sl) (oj : Option V), en[j]? = some sj → σ[j]? = some oj → ¬ Ft K B H sj oj p) (one : ∀ q, Ft K B H s (some (.ref p)) q → q = p := by first | exact (fun q f => by cases f; rfl) | assumption) (np : ∀ t, s ≠ .par t := by intro _ z; cases z) (nr : ∀ t, s ≠ .ro t := by intro _ z; cases z) : EnOk K B0 H0 B H (σ.set i (some (.ref p))) (en.set i s) :=
  h.put i hs (fun q f => by rw [one q f]; exact f0) (fun j sj oj _ a b q f g => hn j sj oj a b (by rw [← one q f]; exact g)) np nr
theorem EnOk.chgG (h : EnOk K B0 H0 B H σ en) {i : Nat} {s0 s : Sl} {o : Option V} (e : en[i]? = some s0) (ho : σ[i]? = some o) (hH : ∀ q, ¬ Ft K B H s0 o q → H q ≠ none → H' q = H q) (hs : SlOk K B H' s o)
    (hf : ∀ q, Ft K B H' s o q → Ft K B H s0 o q ∨ H0 q = none ∧ ∀ (j : Nat) (sj : Sl) (oj : Option V), en[j]? = some sj → σ[j]? = some oj → ¬ Ft K B H sj oj q) (np : ∀ t, s = .par t → ∃ t0, s0 = .par t0 := by intro _ z; cases z) (nr : ∀ t, s ≠ .ro t := by intro _ z; cases z) : EnOk K B0 H0 B H' σ (en.set i s) := by
  have sl0 := h.slot i s0 o e ho
  have keep : ∀ (j : Nat) (sj : Sl) (oj : Option V), j ≠ i → en[j]? = some sj → σ[j]? = some oj → SlOk K B H' sj oj ∧ ∀ q, Ft K B H' sj oj q ↔ Ft K B H sj oj q := fun j sj oj ne a b => by
    have sj' := h.slot j sj oj a b
    refine sj'.mono (Ex.refl _) fun q f => ?_
    have fr := sj'.free f
    exact ⟨hH q (fun g => ne (h.apart j i sj s0 oj o q a e b ho f g)) fr.2.1, fr.1⟩
  have hh : ∀ a u, H a = some u → (∀ f : Ft K B H s0 o a, False) → H' a = some u := fun a u q f => by
    rw [hH a f (by rw [q]; exact fun z => nomatch z)]; exact q
  have new : ∀ (j : Nat) (sj : Sl) (oj : Option V), (en.set i s)[j]? = some sj → σ[j]? = some oj → (j = i ∧ sj = s ∧ oj = o) ∨ (j ≠ i ∧ en[j]? = some sj) := fun j sj oj a b => by
    rcases get_set a with ⟨rfl, rfl, _⟩ | ⟨ne, a'⟩
    · rw [ho] at b; cases b; exact .inl ⟨rfl, rfl, rfl⟩
    · exact .inr ⟨ne, a'⟩
  refine ⟨⟨h.ext.bb, fun a u q => hh a u (h.bh a u q) fun f => ?_, fun a u q => hh a u (h.ext.hh a u q) fun f => ?_, h.ext.st⟩, by rw [List.length_set, h.len], fun j sj oj a b => ?_, fun j k sj sk oj ok q a b c d f g => ?_, fun j sj oj q a b f => ?_, fun j t oj a b => ?_, fun j t oj a b => ?_⟩
  · rw [(sl0.free f).1] at q; cases q
  · rw [h.frs i s0 o a e ho f] at q; cases q
  · rcases new j sj oj a b with ⟨rfl, rfl, rfl⟩ | ⟨ne, a'⟩
    · exact hs
    · exact (keep j sj oj ne a' b).1
  · have cross : ∀ (k : Nat) (sk : Sl) (ok : Option V), k ≠ i → en[k]? = some sk → σ[k]? = some ok → Ft K B H' s o q → Ft K B H' sk ok q → False := fun k sk ok ne b d f g => by
      have g' := ((keep k sk ok ne b d).2 q).mp g
      rcases hf q f with f' | f'
      · exact ne (h.apart k i sk s0 ok o q b e d ho g' f')
      · exact f'.2 k sk ok b d g'
    rcases new j sj oj a c with ⟨rfl, rfl, rfl⟩ | ⟨n1, a'⟩
    · rcases new k sk ok b d with ⟨rfl, rfl, rfl⟩ | ⟨n2, b'⟩
      · rfl
      · exact (cross k sk ok n2 b' d f g).elim
    · rcases new k sk ok b d with ⟨rfl, rfl, rfl⟩ | ⟨n2, b'⟩
      · exact (cross j sj oj n1 a' c g f).elim
      · exact h.apart j k sj sk oj ok q a' b' c d (((keep j sj oj n1 a' c).2 q).mp f) (((keep k sk ok n2 b' d).2 q).mp g)
  · rcases new j sj oj a b with ⟨rfl, rfl, rfl⟩ | ⟨ne, a'⟩
    · rcases hf q f with f' | f'
      · exact h.frs j s0 oj q e ho f'
      · exact f'.1
    · exact h.frs j sj oj q a' b (((keep j sj oj ne a' b).2 q).mp f)
  · rcases new j _ oj a b with ⟨rfl, z, rfl⟩ | ⟨ne, a'⟩
    · obtain ⟨t0, z0⟩ := np t z.symm
      subst z0
      exact h.root j t0 oj e ho
    · exact h.root j t oj a' b
  · rcases new j _ oj a b with ⟨rfl, z, rfl⟩ | ⟨ne, a'⟩
    · exact (nr t z.symm).elim
    · exact h.ro j t oj a' b
theorem EnOk.chgT (h : EnOk K B0 H0 B H σ en) {i : Nat} {s0 s : Sl} {o : Option V} (e : en[i]? = some s0) (ho : σ[i]? = some o) (hH : ∀ q, ¬ Ft K B H s0 o q → H q ≠ none → H' q = H q) (hs : SlOk K B H' s o)
    (hf : ∀ q, Ft K B H' s o q → Ft K B H s0 o q ∨ H q = none) (np : ∀ t, s = .par t → ∃ t0, s0 = .par t0 := by intro _ z; cases z) (nr : ∀ t, s ≠ .ro t := by intro _ z; cases z) : EnOk K B0 H0 B H' σ (en.set i s) :=
  h.chgG e ho hH hs (fun q f => (hf q f).imp id fun z => ⟨fresh_back h.ext.hh z, fun j sj oj a b g => ((h.slot j sj oj a b).free g).2.1 z⟩) np nr
theorem EnOk.chg (h : EnOk K B0 H0 B H σ en) {p : Addr} {i : Nat} {s0 s : Sl} {u : HO} (e : en[i]? = some s0) (m0 : s0.mut = true) (m : s.mut = true) (hp : σ[i]? = some (some (.ref p))) (hb : B p = none) (hs : SlOk K B (upd H p u) s (some (.ref p)))
    (f0 : Ft K B H s0 (some (.ref p)) p := by exact rfl) (one : ∀ q, Ft K B (upd H p u) s (some (.ref p)) q → q = p := by first | exact (fun q f => by cases f; rfl) | assumption) (np : ∀ t, s = .par t → ∃ t0, s0 = .par t0 := by intro _ z; cases z) (nr : ∀ t, s ≠ .ro t := by intro _ z; cases z) :
    EnOk K B0 H0 B (upd H p u) σ (en.set i s) :=
  h.chgT e hp (fun q f _ => upd_ne (fun z => f (by rw [z]; exact f0))) hs (fun q f => .inl (by rw [one q f]; exact f0)) np nr
end
end DD

namespace DD
open PySem PySem.Spec PyProof.Rows L2 Evl

def Kp (K : PySem.W.Frag) (B H : Hp) (d : D) (Q : VK) : Prop := ∀ v B' H', Ext B H B' H' → Rp K B' v d → Q v H'
def CE (K : PySem.W.Frag) (te : TE) (f : En → Option D) : Prop := ∀ B0 H0 B H σ en d, EnOk K B0 H0 B H σ en → f en = some d → ∀ Q : VK, Kp K B H d Q → te σ H Q
def CT (K : PySem.W.Frag) (tt : TT) (f : En → Option Bool) : Prop := ∀ B0 H0 B H σ en b, EnOk K B0 H0 B H σ en → f en = some b → ∀ Q : Bool → Hp → Prop, (∀ B' H', Ext B H B' H' → Q b H') → tt σ H Q
def CA (K : PySem.W.Frag) (ta : TA) (f : En → Option (List D)) : Prop := ∀ B0 H0 B H σ en ds, EnOk K B0 H0 B H σ en → f en = some ds → ∀ Q : List V → Hp → Prop, (∀ vs B' H', Ext B H B' H' → RpAll K B' vs ds → Q vs H') → ta σ H Q
def CO (K : PySem.W.Frag) (to : TO) (f : En → Option (Option Int)) : Prop := ∀ B0 H0 B H σ en o, EnOk K B0 H0 B H σ en → f en = some o → ∀ Q : Option Int → Hp → Prop, (∀ B' H', Ext B H B' H' → Q o H') → to σ H Q
def CL (K : PySem.W.Frag) (te : TE) (f : En → Option (List D)) : Prop := ∀ B0 H0 B H σ en ds, EnOk K B0 H0 B H σ en → f en = some ds → ∀ Q : VK, (∀ p vs B' H', Ext B H B' H' → H p = none → B' p = none → H' p = some (.lst vs) → RpAll K B' vs ds → Q (.ref p) H') → te σ H Q
structure DE (X : Cx) (e : Expr) (te : TE) (f : En → Option D) : Prop where
  p : PE X e te
  c : CE X.K te f
structure DT (X : Cx) (e : Expr) (te : TT) (f : En → Option Bool) : Prop where
  p : PT X e te
  c : CT X.K te f
structure DW (X : Cx) (e : Expr) (te : TT) (f : En → Option Bool) : Prop where
  p : PW X e te
  c : CT X.K te f
structure DA (X : Cx) (es : List Expr) (te : TA) (f : En → Option (List D)) : Prop where
  p : PA X es te
  c : CA X.K te f
structure DO (X : Cx) (e : Option Expr) (te : TO) (f : En → Option (Option Int)) : Prop where
  p : PO X e te
  c : CO X.K te f
structure DL (X : Cx) (e : Expr) (te : TE) (f : En → Option (List D)) : Prop where
  p : PE X e te
  c : CL X.K te f

theorem obind {α β : Type} {o : Option α} {f : α → Option β} {b : β} (h : o.bind f = some b) : ∃ a, o = some a ∧ f a = some b := by
  cases o with
  | none => cases h
  | some a => exact ⟨a, rfl, h⟩
theorem omap {α β : Type} {o : Option α} {f : α → β} {b : β} (h : o.map f = some b) : ∃ a, o = some a ∧ f a = b := by
  cases o with
  | none => cases h
  | some a => exact ⟨a, rfl, Option.some.inj h⟩
theorem oite {α : Type} {c : Prop} [Decidable c] {a b : α} (h : (if c then some a else none) = some b) : c ∧ a = b := by
  by_cases hc : c
  · rw [if_pos hc] at h; exact ⟨hc, Option.some.inj h⟩
  · rw [if_neg hc] at h; cases h

abbrev lim : Nat := 1000000
theorem lim_le {n : Nat} (h : n ≤ lim) : n ≤ sizeLine := Nat.le_trans h (by decide)
theorem lim_lt {n : Nat} (h : n ≤ lim) : n < sizeLine := Nat.lt_of_le_of_lt h (by decide)

section
variable {K : PySem.W.Frag} {X : Cx} {pos : Pos} {a b c e : Expr} {ta tb tc te : TE} {fa fb fc f : En → Option D} {B H : Hp}
theorem kp_flat {v : V} {d : D} {Q : VK} (k : Kp K B H d Q) (e : Ex B H) (h : Rp K B v d) : Q v H := k v B H (Ext.refl e) h

@[simp] def dVar (i : Nat) : En → Option D := fun en => match en[i]? with
  | some (.dat d) => some d
  | _ => none
@[simp] def dC (d : D) : En → Option D := fun _ => some d
theorem dVar_some {i : Nat} {en : En} {d : D} (h : dVar i en = some d) : en[i]? = some (.dat d) := by
  unfold dVar at h
  split at h
  · rename_i d' e; cases h; exact e
  · cases h
theorem ce_var (i : Nat) : CE K (tVar i) (dVar i) := fun B0 H0 B H σ en d h e Q k => by
  obtain ⟨v, h1, h2⟩ := h.dat (dVar_some e)
  exact ⟨v, h1, k v B H (Ext.refl h.bh) h2⟩
theorem de_var (i : Nat) {x : Str} (h : PE X (.Name x pos) (tVar i)) : DE X (.Name x pos) (tVar i) (dVar i) := ⟨h, ce_var i⟩
theorem ce_c {v : V} {d : D} (h : ∀ B, Rp K B v d) : CE K (tC v) (dC d) := fun B0 H0 B H σ en d' hE e Q k => by
  cases e
  exact k v B H (Ext.refl hE.bh) (h B)
theorem de_int {i j} : DE X (.Constant (.int i) j pos) (tC (.int i)) (dC (.int i)) := ⟨pe_int, ce_c fun _ => .int _⟩
theorem de_bl {i j} : DE X (.Constant (.bool i) j pos) (tC (.bl i)) (dC (.bl i)) := ⟨pe_bl, ce_c fun _ => .bl _⟩
theorem de_non {j} : DE X (.Constant .none j pos) (tC .non) (dC .non) := ⟨pe_non, ce_c fun _ => .non⟩
theorem de_str {x j} : DE X (.Constant (.str x) j pos) (tC (.str x)) (dC (.str x)) := ⟨pe_str, ce_c fun _ => .str _⟩
def OpD (K : PySem.W.Frag) (r : R2) (g : D → D → Option D) : Prop := ∀ B H x y dx dy d, Ex B H → Rp K B x dx → Rp K B y dy → g dx dy = some d → ∀ Q : VK, Kp K B H d Q → r x y H Q
@[simp] def d2 (g : D → D → Option D) (fa fb : En → Option D) : En → Option D := fun en => (fa en).bind fun x => (fb en).bind fun y => g x y
theorem ce_op {r : R2} {g : D → D → Option D} (hr : OpD K r g) (ha : CE K ta fa) (hb : CE K tb fb) : CE K (tOp r ta tb) (d2 g fa fb) := fun B0 H0 B H σ en d h e Q k => by
  obtain ⟨x, e1, e⟩ := obind e
  obtain ⟨y, e2, e⟩ := obind e
  refine ha B0 H0 B H σ en x h e1 _ fun v B1 H1 x1 r1 => ?_
  refine hb B0 H0 B1 H1 σ en y (h.up x1) e2 _ fun u B2 H2 x2 r2 => ?_
  exact hr B2 H2 v u x y d x2.bh (r1.up x2.bb) r2 e Q fun w B3 H3 x3 r3 => k w B3 H3 ((x1.trans x2).trans x3) r3
theorem de_bin {op : Operator} {r : R2} {g : D → D → Option D} (ho : OpR X (binaryOp op) r) (hr : OpD X.K r g) (ha : DE X a ta fa) (hb : DE X b tb fb) : DE X (.BinOp a op b pos) (tOp r ta tb) (d2 g fa fb) := ⟨pe_op ho ha.p hb.p, ce_op hr ha.c hb.c⟩
theorem de_cmp {op : CmpOp} {r : R2} {g : D → D → Option D} (ho : OpR X (compareOp op) r) (hr : OpD X.K r g) (ha : DE X a ta fa) (hb : DE X b tb fb) (hm : behindInMarks op b = false) : DE X (.Compare a [op] [b] pos) (tOp r ta tb) (d2 g fa fb) := ⟨pe_cmpR ho ha.p hb.p hm, ce_op hr ha.c hb.c⟩
theorem de_ix {r : R2} {g : D → D → Option D} (ho : IxR X r) (hr : OpD X.K r g) (ha : DE X a ta fa) (hb : DE X b tb fb) (hs : PlainIx b) : DE X (.Subscript a b pos) (tOp r ta tb) (d2 g fa fb) := ⟨pe_ix ho ha.p hb.p hs, ce_op hr ha.c hb.c⟩
theorem OpD.or {r r' : R2} {g g' : D → D → Option D} (h : OpD K r g) (h' : OpD K r' g') : OpD K (fun x y H Q => r x y H Q ∨ r' x y H Q) (fun x y => (g x y).or (g' x y)) := fun B H x y dx dy d hE h1 h2 e Q k => by
  have e : (g dx dy).or (g' dx dy) = some d := e
  cases q : g dx dy with
  | some z => rw [q] at e; cases e; exact .inl (h B H x y dx dy _ hE h1 h2 q Q k)
  | none => rw [q] at e; exact .inr (h' B H x y dx dy d hE h1 h2 e Q k)
@[simp] def gI (C : Int → Int → Bool) (g : Int → Int → D) : D → D → Option D
  | .int i, .int j => if C i j = true then some (g i j) else none
  | _, _ => none
theorem gI_some {C : Int → Int → Bool} {g : Int → Int → D} {x y d : D} (h : gI C g x y = some d) : ∃ i j, x = .int i ∧ y = .int j ∧ C i j = true ∧ d = g i j := by
  unfold gI at h
  split at h
  · rename_i i j
    obtain ⟨h1, h2⟩ := oite h
    exact ⟨i, j, rfl, rfl, h1, h2.symm⟩
  · cases h
theorem opd_I {P : Int → Int → Prop} {C : Int → Int → Bool} {g : Int → Int → V} {g' : Int → Int → D} (hp : ∀ i j, C i j = true → P i j) (hg : ∀ i j B, Rp K B (g i j) (g' i j)) : OpD K (rI P g) (gI C g') := fun B H x y dx dy d hE h1 h2 e Q k => by
  obtain ⟨i, j, rfl, rfl, hc, rfl⟩ := gI_some e
  cases h1; cases h2
  exact ⟨i, j, rfl, rfl, hp i j hc, kp_flat k hE (hg i j B)⟩
theorem opd_I0 {g : Int → Int → V} {g' : Int → Int → D} (hg : ∀ i j B, Rp K B (g i j) (g' i j)) : OpD K (rI0 g) (gI (fun _ _ => true) g') := fun B H x y dx dy d hE h1 h2 e Q k => by
  obtain ⟨i, j, rfl, rfl, hc, rfl⟩ := gI_some e
  cases h1; cases h2
  exact ⟨i, j, rfl, rfl, kp_flat k hE (hg i j B)⟩
@[simp] def gAddI := gI (fun _ _ => true) fun i j => .int (i + j)
@[simp] def gSub := gI (fun _ _ => true) fun i j => .int (i - j)
def smallI (i : Int) : Bool := Nat.ble i.natAbs 1000000000000000
theorem smallI_of {i : Int} (h : smallI i = true) : -(2 ^ 64) < i ∧ i < 2 ^ 64 := by
  have h := Nat.le_of_ble_eq_true h
  omega
def gMulI := gI (fun i j => smallI j || smallI i) fun i j => .int (i * j)
theorem gMul_l {i j : Int} (h : smallI i = true) : gMulI (.int i) (.int j) = some (.int (i * j)) := by
  show (if (smallI j || smallI i) = true then _ else _) = _
  rw [h, Bool.or_true] <;> rfl
theorem gMul_r {i j : Int} (h : smallI j = true) : gMulI (.int i) (.int j) = some (.int (i * j)) := by
  show (if (smallI j || smallI i) = true then _ else _) = _
  rw [h, Bool.true_or] <;> rfl
@[simp] theorem gMul_2 (j : Int) : gMulI (.int 2) (.int j) = some (.int (2 * j)) := gMul_l (by decide)
@[simp] theorem gMul_3 (j : Int) : gMulI (.int 3) (.int j) = some (.int (3 * j)) := gMul_l (by decide)
@[simp] theorem gMul_4 (j : Int) : gMulI (.int 4) (.int j) = some (.int (4 * j)) := gMul_l (by decide)
@[simp] theorem gMul_5 (j : Int) : gMulI (.int 5) (.int j) = some (.int (5 * j)) := gMul_l (by decide)
@[simp] theorem gMul_6 (j : Int) : gMulI (.int 6) (.int j) = some (.int (6 * j)) := gMul_l (by decide)
@[simp] theorem gMul_7 (j : Int) : gMulI (.int 7) (.int j) = some (.int (7 * j)) := gMul_l (by decide)
@[simp] theorem gMul_31 (j : Int) : gMulI (.int 31) (.int j) = some (.int (31 * j)) := gMul_l (by decide)
@[simp] theorem gMul_r48271 (j : Int) : gMulI (.int j) (.int 48271) = some (.int (j * 48271)) := gMul_r (by decide)
@[simp] theorem gMul_r69621 (j : Int) : gMulI (.int j) (.int 69621) = some (.int (j * 69621)) := gMul_r (by decide)
@[simp] def gMod := gI (fun _ j => decide (0 < j)) fun i j => .int (i % j)
@[simp] def gFdiv := gI (fun _ j => decide (0 < j) && Nat.ble j.natAbs 1000000000) fun i j => .int (i / j)
@[simp] def gPow := gI (fun i j => decide (0 ≤ j) && Nat.ble j.natAbs 1000 && Nat.ble i.natAbs 1000) fun i j => .int (i ^ j.toNat)
@[simp] def gLt := gI (fun _ _ => true) fun i j => .bl (decide (i < j))
@[simp] def gLe := gI (fun _ _ => true) fun i j => .bl (decide (i ≤ j))
@[simp] def gGt := gI (fun _ _ => true) fun i j => .bl (decide (j < i))
@[simp] def gGe := gI (fun _ _ => true) fun i j => .bl (decide (j ≤ i))
theorem od_addI : OpD K (rI0 fun i j => .int (i + j)) gAddI := opd_I0 fun _ _ _ => .int _
theorem od_sub : OpD K (rI0 fun i j => .int (i - j)) gSub := opd_I0 fun _ _ _ => .int _
theorem od_mulI : OpD K (rI CMul fun i j => .int (i * j)) gMulI := opd_I (fun i j h => by
  rw [Bool.or_eq_true] at h
  rcases h with h | h
  · exact .inr (smallI_of h)
  · exact .inl (smallI_of h)) fun _ _ _ => .int _
theorem od_mod : OpD K (rI (fun _ j => 0 < j) fun i j => .int (i % j)) gMod := opd_I (fun i j h => of_decide_eq_true h) fun _ _ _ => .int _
theorem od_fdiv : OpD K (rI CDiv fun i j => .int (i / j)) gFdiv := opd_I (fun i j h => by
  rw [Bool.and_eq_true, decide_eq_true_eq] at h
  have h2 := Nat.le_of_ble_eq_true h.2
  exact ⟨h.1, by have := h.1; omega⟩) fun _ _ _ => .int _
theorem od_pow : OpD K (rI CPow fun i j => .int (i ^ j.toNat)) gPow := opd_I (fun i j h => by
  rw [Bool.and_eq_true, Bool.and_eq_true, decide_eq_true_eq] at h
  have h2 := Nat.le_of_ble_eq_true h.1.2
  have h3 := Nat.le_of_ble_eq_true h.2
  exact ⟨h.1.1, by omega, by omega⟩) fun _ _ _ => .int _
theorem od_lt : OpD K (rI0 fun i j => .bl (decide (i < j))) gLt := opd_I0 fun _ _ _ => .bl _
theorem od_le : OpD K (rI0 fun i j => .bl (decide (i ≤ j))) gLe := opd_I0 fun _ _ _ => .bl _
theorem od_gt : OpD K (rI0 fun i j => .bl (decide (j < i))) gGt := opd_I0 fun _ _ _ => .bl _
theorem od_ge : OpD K (rI0 fun i j => .bl (decide (j ≤ i))) gGe := opd_I0 fun _ _ _ => .bl _
@[simp] def gAddS : D → D → Option D
  | .str i, .str j => if i.length + j.length ≤ lim then some (.str (i ++ j)) else none
  | _, _ => none
def rAddSt : R2 := fun x y H Q => ∃ i j, x = .str i ∧ y = .str j ∧ i.length + j.length ≤ sizeLine ∧ Q (.str (i ++ j)) H
theorem op_addS1 : OpR X (binaryOp .Add) rAddSt := op_add_str
theorem od_addS : OpD K rAddSt gAddS := fun B H x y dx dy d hE h1 h2 e Q k => by
  unfold gAddS at e
  split at e
  · obtain ⟨h, rfl⟩ := oite e
    cases h1; cases h2
    exact ⟨_, _, rfl, rfl, lim_le h, kp_flat k hE (.str _)⟩
  · cases e
@[simp] def gAddT : D → D → Option D
  | .tup i, .tup j => if i ≠ [] ∧ i.length + j.length ≤ lim then some (.tup (i ++ j)) else none
  | _, _ => none
theorem od_addT : OpD K (rCatT K) gAddT := fun B H x y dx dy d hE h1 h2 e Q k => by
  unfold gAddT at e
  split at e
  · rename_i i j
    obtain ⟨⟨h, h'⟩, rfl⟩ := oite e
    cases h1 with
    | tup s1_ r1 =>
      cases h2 with
      | tup s2_ r2 =>
        have l1 := r1.len
        have l2 := r2.len
        refine ⟨_, _, _, _, rfl, rfl, SqT.of (hE _ _ s1_), SqT.of (hE _ _ s2_), ?_, by rw [l1, l2]; exact lim_le h', fun z => ?_, fun _ p hp => ?_⟩
        · intro z; subst z; cases r1; exact h rfl
        · subst z
          cases r2
          rw [List.append_nil] at k
          exact kp_flat k hE (.tup s1_ r1)
        · exact k _ _ _ (Ext.new hE hp) (.tup upd_same ((r1.app r2).up (Ex.new (fresh_back hE hp))))
  · cases e
def rAddAll (K : PySem.W.Frag) : R2 := fun x y H Q => rI0 (fun i j => .int (i + j)) x y H Q ∨ (rAddSt x y H Q ∨ rCatT K x y H Q)
theorem op_addAll : OpR X (binaryOp .Add) (rAddAll X.K) := op_add.or (op_addS1.or op_catT)
@[simp] def gAdd (x y : D) : Option D := (gAddI x y).or ((gAddS x y).or (gAddT x y))
theorem od_addAll : OpD K (rAddAll K) gAdd := od_addI.or (od_addS.or od_addT)
abbrev rSb : R2 := rI0 fun i j => .int (i - j)
abbrev rMl : R2 := rI CMul fun i j => .int (i * j)
abbrev rMd : R2 := rI (fun _ j => 0 < j) fun i j => .int (i % j)
abbrev rFd : R2 := rI CDiv fun i j => .int (i / j)
abbrev rPw : R2 := rI CPow fun i j => .int (i ^ j.toNat)
abbrev rL1 : R2 := rI0 fun i j => .bl (decide (i < j))
abbrev rL2 : R2 := rI0 fun i j => .bl (decide (i ≤ j))
abbrev rG1 : R2 := rI0 fun i j => .bl (decide (j < i))
abbrev rG2 : R2 := rI0 fun i j => .bl (decide (j ≤ i))
theorem de_add (ha : DE X a ta fa) (hb : DE X b tb fb) : DE X (.BinOp a .Add b pos) (tOp (rAddAll X.K) ta tb) (d2 gAdd fa fb) := de_bin op_addAll od_addAll ha hb
theorem de_sub (ha : DE X a ta fa) (hb : DE X b tb fb) : DE X (.BinOp a .Sub b pos) (tOp rSb ta tb) (d2 gSub fa fb) := de_bin op_sub od_sub ha hb
theorem de_mul (ha : DE X a ta fa) (hb : DE X b tb fb) : DE X (.BinOp a .Mult b pos) (tOp rMl ta tb) (d2 gMulI fa fb) := de_bin op_mul od_mulI ha hb
theorem de_mod (ha : DE X a ta fa) (hb : DE X b tb fb) : DE X (.BinOp a .Mod b pos) (tOp rMd ta tb) (d2 gMod fa fb) := de_bin op_mod od_mod ha hb
theorem de_fdiv (ha : DE X a ta fa) (hb : DE X b tb fb) : DE X (.BinOp a .FloorDiv b pos) (tOp rFd ta tb) (d2 gFdiv fa fb) := de_bin op_fdiv od_fdiv ha hb
theorem de_pow (ha : DE X a ta fa) (hb : DE X b tb fb) : DE X (.BinOp a .Pow b pos) (tOp rPw ta tb) (d2 gPow fa fb) := de_bin op_pow od_pow ha hb
theorem de_ge (ha : DE X a ta fa) (hb : DE X b tb fb) : DE X (.Compare a [.GtE] [b] pos) (tOp rG2 ta tb) (d2 gGe fa fb) := de_cmp op_ge od_ge ha hb (nomark _)
@[simp] def gNeg : D → Option D
  | .int i => some (.int (-i))
  | _ => none
@[simp] def d1 (g : D → Option D) (fa : En → Option D) : En → Option D := fun en => (fa en).bind g
theorem de_neg (ha : DE X a ta fa) : DE X (.UnaryOp .USub a pos) (tUn (rU fun i => .int (-i)) ta) (d1 gNeg fa) := ⟨pe_un un_neg ha.p, fun B0 H0 B H σ en d h e Q k => by
  obtain ⟨x, e1, e⟩ := obind e
  refine ha.c B0 H0 B H σ en x h e1 _ fun v B1 H1 x1 r1 => ?_
  unfold gNeg at e
  split at e
  · cases e
    cases r1
    exact ⟨_, rfl, k _ B1 H1 x1 (.int _)⟩
  · cases e⟩

mutual
def py : D → PyData
  | .non => .none
  | .bl b => .bool b
  | .int i => .int i
  | .str x => .str x
  | .lst ds => .list (pyAll ds)
  | .tup ds => .tuple (pyAll ds)
  | .dic _ _ => .none
  | .dit _ _ => .none
  | .fn _ => .none
  | .ctp _ => .none
def pyAll : List D → List PyData
  | [] => []
  | d :: ds => py d :: pyAll ds
end
mutual
def deep : Nat → D → Bool
  | _, .non => true
  | _, .bl _ => true
  | _, .int _ => true
  | _, .str x => PyData.strOk x
  | 0, .lst _ => false
  | 0, .tup _ => false
  | n + 1, .lst ds => deepAll n ds
  | n + 1, .tup ds => deepAll n ds
  | _, .dic _ _ => false
  | _, .dit _ _ => false
  | _, .fn _ => false
  | _, .ctp _ => false
def deepAll : Nat → List D → Bool
  | _, [] => true
  | n, d :: ds => deep n d && deepAll n ds
end
mutual
theorem Rp.dp : ∀ (d : D) (n : Nat) (v : V), deep n d = true → Rp K H v d → Dp K H v (py d)
  | .non, _, _, _, h => by cases h; exact .non
  | .bl _, _, _, _, h => by cases h; exact .bl _
  | .int _, _, _, _, h => by cases h; exact .int _
  | .str _, _, _, _, h => by cases h; exact .str _
  | .lst ds, 0, _, q, _ => by simp [deep] at q
  | .tup ds, 0, _, q, _ => by simp [deep] at q
  | .lst ds, n + 1, _, q, h => by cases h with | lst a b => exact .lst a (RpAll.dpA ds n _ (by simpa [deep] using q) b)
  | .tup ds, n + 1, _, q, h => by cases h with | tup a b => exact .tup (SqT.of a) (RpAll.dpA ds n _ (by simpa [deep] using q) b)
  | .dic _ _, _, _, q, _ => by simp [deep] at q
  | .dit _ _, _, _, q, _ => by simp [deep] at q
  | .fn _, _, _, q, _ => by simp [deep] at q
  | .ctp _, _, _, q, _ => by simp [deep] at q
theorem RpAll.dpA : ∀ (ds : List D) (n : Nat) (vs : List V), deepAll n ds = true → RpAll K H vs ds → DpAll K H vs (pyAll ds)
  | [], _, _, _, h => by cases h; exact .nil
  | d :: ds, n, _, q, h => by
    rw [deepAll, Bool.and_eq_true] at q
    cases h with | cons a b => exact .cons (Rp.dp d n _ q.1 a) (RpAll.dpA ds n _ q.2 b)
end
mutual
theorem deep_lay : ∀ (d : D) (n : Nat), deep n d = true → (py d).canLay0 = true ∧ (py d).depth ≤ n
  | .non, _, _ => by simp [py, PyData.canLay0, PyData.depth]
  | .bl _, _, _ => by simp [py, PyData.canLay0, PyData.depth]
  | .int _, _, _ => by simp [py, PyData.canLay0, PyData.depth]
  | .str x, _, q => by
    simp only [deep] at q
    simp [py, PyData.canLay0, PyData.depth, q]
  | .lst ds, 0, q => by simp [deep] at q
  | .tup ds, 0, q => by simp [deep] at q
  | .lst ds, n + 1, q => by
    obtain ⟨h1, h2⟩ := deepAll_lay ds n (by simpa [deep] using q)
    simp only [py, PyData.canLay0, PyData.depth]
    exact ⟨h1, by omega⟩
  | .tup ds, n + 1, q => by
    obtain ⟨h1, h2⟩ := deepAll_lay ds n (by simpa [deep] using q)
    simp only [py, PyData.canLay0, PyData.depth]
    exact ⟨h1, by omega⟩
  | .dic _ _, _, q => by simp [deep] at q
  | .dit _ _, _, q => by simp [deep] at q
  | .fn _, _, q => by simp [deep] at q
  | .ctp _, _, q => by simp [deep] at q
theorem deepAll_lay : ∀ (ds : List D) (n : Nat), deepAll n ds = true → PyData.canLayAll0 (pyAll ds) = true ∧ PyData.depthAll (pyAll ds) ≤ n
  | [], _, _ => by simp [pyAll, PyData.canLayAll0, PyData.depthAll]
  | d :: ds, n, q => by
    rw [deepAll, Bool.and_eq_true] at q
    obtain ⟨h1, h2⟩ := deep_lay d n q.1
    obtain ⟨h3, h4⟩ := deepAll_lay ds n q.2
    simp only [pyAll, PyData.canLayAll0, PyData.depthAll]
    exact ⟨by rw [h1, h3] <;> rfl, by omega⟩
end
theorem deep_shaped {d : D} (h : deep 60 d = true) : SeqAt.shaped (py d) = true := by
  obtain ⟨h1, h2⟩ := deep_lay d 60 h
  show ((py d).canLay0 && decide ((py d).depth ≤ 64)) = true
  rw [h1, decide_eq_true (by omega)] <;> rfl
@[simp] def gEq (x y : D) : Option D := if deep 60 x = true ∧ deep 60 y = true then some (.bl (PyData.eqv (py x) (py y))) else none
@[simp] def gNe (x y : D) : Option D := if deep 60 x = true ∧ deep 60 y = true then some (.bl (!PyData.eqv (py x) (py y))) else none
theorem od_eq : OpD K (rEqD K) gEq := fun B H x y dx dy d hE h1 h2 e Q k => by
  obtain ⟨⟨q1, q2⟩, rfl⟩ := oite e
  exact ⟨_, _, Rp.dp dx 60 x q1 (h1.up hE), Rp.dp dy 60 y q2 (h2.up hE), deep_shaped q1, deep_shaped q2, kp_flat k hE (.bl _)⟩
theorem od_ne : OpD K (rNeD K) gNe := fun B H x y dx dy d hE h1 h2 e Q k => by
  obtain ⟨⟨q1, q2⟩, rfl⟩ := oite e
  exact ⟨_, _, Rp.dp dx 60 x q1 (h1.up hE), Rp.dp dy 60 y q2 (h2.up hE), deep_shaped q1, deep_shaped q2, kp_flat k hE (.bl _)⟩
@[simp] def gIsN (x y : D) : Option D := match y with
  | .non => some (.bl (match x with | .non => true | _ => false))
  | _ => none
@[simp] def gNotN (x y : D) : Option D := match y with
  | .non => some (.bl (match x with | .non => false | _ => true))
  | _ => none
def rIsN' : R2 := fun x y H Q => y = .non ∧ Q (.bl (decide (x = .non))) H
def rNotN' : R2 := fun x y H Q => y = .non ∧ Q (.bl (!decide (x = .non))) H
theorem od_isN : OpD K rIsN' gIsN := fun B H x y dx dy d hE h1 h2 e Q k => by
  unfold gIsN at e
  split at e
  · cases h2
    cases e
    refine ⟨rfl, ?_⟩
    cases h1 <;> exact kp_flat k hE (.bl _)
  · cases e
theorem od_notN : OpD K rNotN' gNotN := fun B H x y dx dy d hE h1 h2 e Q k => by
  unfold gNotN at e
  split at e
  · cases h2
    cases e
    refine ⟨rfl, ?_⟩
    cases h1 <;> exact kp_flat k hE (.bl _)
  · cases e
@[simp] def gIx : D → D → Option D
  | .lst ds, .int i => atI ds i
  | .tup ds, .int i => atI ds i
  | .str z, .int i => if z.length ≤ lim then (atI z.cps.toList i).map fun c => .str ⟨#[c]⟩ else none
  | _, _ => none
theorem RpAll.atI {vs : List V} {ds : List D} {i : Int} {d : D} (h : RpAll K B vs ds) (e : atI ds i = some d) : ∃ v, L2.atI vs i = some v ∧ Rp K B v d := by
  unfold L2.atI at e ⊢
  rw [← h.len] at e
  obtain ⟨j, e1, e2⟩ := obind e
  obtain ⟨v, h1, h2⟩ := h.get j e2
  exact ⟨v, by rw [e1]; exact h1, h2⟩
theorem od_ix : OpD K (rIx K) gIx := fun B H x y dx dy d hE h1 h2 e Q k => by
  unfold gIx at e
  split at e
  · cases h2
    cases h1 with
    | lst s r =>
      obtain ⟨v, q1, q2⟩ := r.atI e
      exact .inl ⟨_, _, _, v, rfl, rfl, ex_l hE s, q1, kp_flat k hE q2⟩
  · cases h2
    cases h1 with
    | tup s_ r =>
      have s := SqT.of (K := K) s_
      obtain ⟨v, q1, q2⟩ := r.atI e
      exact .inr (.inl ⟨_, _, _, v, rfl, rfl, ex_t hE s, q1, kp_flat k hE q2⟩)
  · cases h2
    cases h1
    split at e
    · rename_i hl
      obtain ⟨c, q1, rfl⟩ := omap e
      exact .inr (.inr ⟨_, _, c, rfl, rfl, lim_le hl, q1, kp_flat k hE (.str _)⟩)
    · cases e
  · cases e
theorem de_at (ha : DE X a ta fa) (hb : DE X b tb fb) (hs : PlainIx b) : DE X (.Subscript a b pos) (tOp (rIx X.K) ta tb) (d2 gIx fa fb) := de_ix ix_seq od_ix ha hb hs

@[simp] def gInS : D → D → Option D
  | .str x, .str z => match x.cps.toList with
    | [c] => some (.bl (decide (c ∈ z.cps.toList)))
    | _ => none
  | _, _ => none
@[simp] def gNotInS (x y : D) : Option D := (gInS x y).bind fun
  | .bl b => some (.bl (!b))
  | _ => none
@[simp] def gInL : D → D → Option D
  | x, .lst ds => if deep 58 x = true ∧ deepAll 58 ds = true then some (.bl ((pyAll ds).any fun z => PyData.eqv z (py x))) else none
  | _, _ => none
@[simp] def gNotInL : D → D → Option D
  | x, .lst ds => if deep 58 x = true ∧ deepAll 58 ds = true then some (.bl (!(pyAll ds).any fun z => PyData.eqv z (py x))) else none
  | _, _ => none
theorem deep_up : ∀ {n : Nat} {d : D}, deep n d = true → (py d).canLay0 = true ∧ (py d).depth ≤ n := fun {n d} h => deep_lay d n h
theorem shaped_of {d : D} {n : Nat} (h : deep n d = true) (hn : n ≤ 64) : SeqAt.shaped (py d) = true := by
  obtain ⟨h1, h2⟩ := deep_lay d n h
  show ((py d).canLay0 && decide ((py d).depth ≤ 64)) = true
  rw [h1, decide_eq_true (by omega)] <;> rfl
theorem od_inL : OpD K (rInD K) gInL := fun B H x y dx dy d hE h1 h2 e Q k => by
  unfold gInL at e
  split at e
  · rename_i ds
    obtain ⟨⟨q1, q2⟩, rfl⟩ := oite e
    have q2' : deep 59 (.lst ds) = true := by rw [deep]; exact q2
    exact ⟨_, _, Rp.dp dx 58 x q1 (h1.up hE), Rp.dp (.lst ds) 59 y q2' (h2.up hE), shaped_of q1 (by omega), shaped_of q2' (by omega), kp_flat k hE (.bl _)⟩
  · cases e
theorem od_notInL : OpD K (rNotInD K) gNotInL := fun B H x y dx dy d hE h1 h2 e Q k => by
  unfold gNotInL at e
  split at e
  · rename_i ds
    obtain ⟨⟨q1, q2⟩, rfl⟩ := oite e
    have q2' : deep 59 (.lst ds) = true := by rw [deep]; exact q2
    exact ⟨_, _, Rp.dp dx 58 x q1 (h1.up hE), Rp.dp (.lst ds) 59 y q2' (h2.up hE), shaped_of q1 (by omega), shaped_of q2' (by omega), kp_flat k hE (.bl _)⟩
  · cases e
@[simp] def gInT : D → D → Option D
  | x, .tup ds => if x.flat = true ∧ ds.all D.flat = true then some (.bl (inV x.v (ds.map D.v))) else none
  | x, .ctp ds => if x.flat = true ∧ ds.all D.flat = true then some (.bl (inV x.v (ds.map D.v))) else none
  | _, _ => none
@[simp] def gNotInT : D → D → Option D
  | x, .tup ds => if x.flat = true ∧ ds.all D.flat = true then some (.bl (!inV x.v (ds.map D.v))) else none
  | x, .ctp ds => if x.flat = true ∧ ds.all D.flat = true then some (.bl (!inV x.v (ds.map D.v))) else none
  | _, _ => none
theorem RpAll.flat : ∀ {vs : List V} {ds : List D}, RpAll K B vs ds → ds.all D.flat = true → vs = ds.map D.v
  | _, _, .nil, _ => rfl
  | _, _, .cons r t, f => by
    rw [List.all_cons, Bool.and_eq_true] at f
    rw [List.map_cons, r.flat f.1, RpAll.flat t f.2]
theorem flatV_v {d : D} (h : d.flat = true) : flatV d.v = true := by cases d <;> first | rfl | cases h
theorem flatV_all : ∀ {ds : List D}, ds.all D.flat = true → (ds.map D.v).all flatV = true
  | [], _ => rfl
  | d :: ds, h => by
    rw [List.all_cons, Bool.and_eq_true] at h
    rw [List.map_cons, List.all_cons, flatV_v h.1, flatV_all h.2] <;> rfl
theorem od_inT : OpD K (rIn K false) gInT := fun B H x y dx dy d hE h1 h2 e Q k => by
  unfold gInT at e
  split at e
  · obtain ⟨⟨q1, q2⟩, rfl⟩ := oite e
    cases h2 with
    | tup s_ r =>
      have s := SqT.of (K := K) s_
      have e1 := h1.flat q1
      have e2 := r.flat q2
      subst e1; subst e2
      exact ⟨_, _, rfl, .inr (ex_t hE s), flatV_v q1, flatV_all q2, kp_flat k hE (.bl _)⟩
  · obtain ⟨⟨q1, q2⟩, rfl⟩ := oite e
    cases h2 with
    | ctp s r =>
      have e1 := h1.flat q1
      have e2 := r.flat q2
      subst e1; subst e2
      exact ⟨_, _, rfl, .inr (ex_t hE s), flatV_v q1, flatV_all q2, kp_flat k hE (.bl _)⟩
  · cases e
theorem de_inL {n : Nat} (hr : Room n X.A) (ha : DE X a ta fa) (hb : DE X b tb fb) (hm : behindInMarks .In b = false) : DE X (.Compare a [.In] [b] pos) (tOp (rInD X.K) ta tb) (d2 gInL fa fb) := de_cmp (op_inD (by have := hr.un; omega)) od_inL ha hb hm
end
end DD

namespace DD
open PySem PySem.Spec PyProof.Rows L2 Evl

section
variable {K : PySem.W.Frag} {X : Cx} {pos : Pos} {a b c e : Expr} {ta tb tc te : TE} {fa fb fc f : En → Option D} {B H : Hp} {tt tu : TT} {ft fu : En → Option Bool} {es rest : List Expr} {tr : TA} {fr : En → Option (List D)}

@[simp] def tBl (f : En → Option D) : En → Option Bool := fun en => (f en).bind fun
  | .bl b => some b
  | _ => none
theorem tBl_some {f : En → Option D} {en : En} {b : Bool} (h : tBl f en = some b) : f en = some (.bl b) := by
  obtain ⟨d, h1, h2⟩ := obind h
  cases d <;> first | cases h2; exact h1 | cases h2
theorem ct_test (h : CE K te f) : CT K (tTest te) (tBl f) := fun B0 H0 B H σ en b hE e Q k =>
  h B0 H0 B H σ en _ hE (tBl_some e) _ fun v B1 H1 x r => by
    cases r
    exact ⟨b, rfl, k B1 H1 x⟩
theorem ct_B (h : CE K te f) : CT K (tB te) (tBl f) := fun B0 H0 B H σ en b hE e Q k =>
  h B0 H0 B H σ en _ hE (tBl_some e) _ fun v B1 H1 x r => by
    cases r
    exact ⟨b, rfl, k B1 H1 x⟩
theorem dt_val (h : DE X e te f) (he : ∀ whole, isTrue e X.env whole = (do let v ← whole; standAt e.pos; holding [v] (truthy v)) := by intro _; rfl) : DT X e (tB te) (tBl f) := ⟨pt_val h.p he, ct_B h.c⟩
@[simp] def tNot1 (ft : En → Option Bool) : En → Option Bool := fun en => (ft en).map (!·)
theorem dt_not (h : DT X a tt ft) : DT X (.UnaryOp .Not a pos) (tNot tt) (tNot1 ft) := ⟨pt_not h.p, fun B0 H0 B H σ en b hE e Q k => by
  obtain ⟨c, e1, rfl⟩ := omap e
  exact h.c B0 H0 B H σ en c hE e1 _ fun B1 H1 x => k B1 H1 x⟩
@[simp] def tAnd2 (ft fu : En → Option Bool) : En → Option Bool := fun en => (ft en).bind fun c => if c = true then fu en else some false
@[simp] def tOr2 (ft fu : En → Option Bool) : En → Option Bool := fun en => (ft en).bind fun c => if c = true then some true else fu en
theorem dw_one (h : DT X a tt ft) : DW X (.BoolOp .And [a] pos) tt ft := ⟨pw_and1 h.p, h.c⟩
theorem dw_one' (h : DT X a tt ft) : DW X (.BoolOp .Or [a] pos) tt ft := ⟨pw_or1 h.p, h.c⟩
theorem dw_and (h : DT X a tt ft) (h' : DW X (.BoolOp .And (b :: rest) pos) tu fu) : DW X (.BoolOp .And (a :: b :: rest) pos) (tAnd tt tu) (tAnd2 ft fu) := ⟨pw_and h.p h'.p, fun B0 H0 B H σ en c hE e Q k => by
  obtain ⟨d, e1, e⟩ := obind e
  refine h.c B0 H0 B H σ en d hE e1 _ fun B1 H1 x => ?_
  cases d with
  | true => exact h'.c B0 H0 B1 H1 σ en c (hE.up x) e Q fun B2 H2 y => k B2 H2 (x.trans y)
  | false => cases e; exact k B1 H1 x⟩
theorem dw_or (h : DT X a tt ft) (h' : DW X (.BoolOp .Or (b :: rest) pos) tu fu) : DW X (.BoolOp .Or (a :: b :: rest) pos) (tOr tt tu) (tOr2 ft fu) := ⟨pw_or h.p h'.p, fun B0 H0 B H σ en c hE e Q k => by
  obtain ⟨d, e1, e⟩ := obind e
  refine h.c B0 H0 B H σ en d hE e1 _ fun B1 H1 x => ?_
  cases d with
  | false => exact h'.c B0 H0 B1 H1 σ en c (hE.up x) e Q fun B2 H2 y => k B2 H2 (x.trans y)
  | true => cases e; exact k B1 H1 x⟩
theorem DW.dt (h : DW X e tt ft) : DT X e tt ft := ⟨h.p.pt, h.c⟩
@[simp] def dAnd2 (fa fb : En → Option D) : En → Option D := fun en => (tBl fa en).bind fun c => if c = true then fb en else some (.bl false)
@[simp] def dOr2 (fa fb : En → Option D) : En → Option D := fun en => (tBl fa en).bind fun c => if c = true then some (.bl true) else fb en
@[simp] def dNot (fa : En → Option D) : En → Option D := fun en => (tBl fa en).map fun c => .bl (!c)
@[simp] def dIf (ft : En → Option Bool) (fa fb : En → Option D) : En → Option D := fun en => (ft en).bind fun c => if c = true then fa en else fb en
@[simp] def tru : D → Option Bool
  | .non => some false
  | .bl b => some b
  | .int i => some (i != 0)
  | .lst ds => some (!ds.isEmpty)
  | .tup ds => some (!ds.isEmpty)
  | .str x => if x.length ≤ lim then some (((x.length : Nat) : Int) != 0) else none
  | _ => none
theorem tru_of {v : V} {d : D} {b : Bool} (hE : Ex B H) (r : Rp K B v d) (h : tru d = some b) : TruV K v H b := by
  unfold tru at h
  split at h
  · cases r; cases h; exact rfl
  · cases r; cases h; exact rfl
  · cases r; cases h; exact rfl
  · cases r with
    | lst s q =>
      cases h
      refine .inl ⟨_, ex_l hE s, ?_⟩
      cases q <;> rfl
  · cases r with
    | tup s q =>
      cases h
      refine .inr (.inl ⟨_, ex_t hE (SqT.of (K := K) s), ?_⟩)
      cases q <;> rfl
  · cases r
    obtain ⟨h1, rfl⟩ := oite h
    exact ⟨lim_le h1, rfl⟩
  · cases h
@[simp] def tTr (f : En → Option D) : En → Option Bool := fun en => (f en).bind tru
theorem dt_tr (h : DE X a ta fa) (he : ∀ whole, isTrue a X.env whole = (do let v ← whole; standAt a.pos; holding [v] (truthy v)) := by intro _; rfl) : DT X a (fun σ H Q => ta σ H fun x H' => ∃ k, TruV X.K x H' k ∧ Q k H') (tTr fa) := ⟨pt_truth h.p he, fun B0 H0 B H σ en b hE e Q k => by
  obtain ⟨d, e1, e⟩ := obind e
  refine h.c B0 H0 B H σ en d hE e1 _ fun v B1 H1 x r => ?_
  exact ⟨b, tru_of x.bh r e, k B1 H1 x⟩⟩

@[simp] def aNil : En → Option (List D) := fun _ => some []
@[simp] def aCons (f : En → Option D) (g : En → Option (List D)) : En → Option (List D) := fun en => (f en).bind fun d => (g en).map fun ds => d :: ds
theorem da_nil : DA X [] tNil aNil := ⟨pa_nil, fun B0 H0 B H σ en ds hE e Q k => by
  cases e
  exact k [] B H (Ext.refl hE.bh) .nil⟩
theorem da_cons (h : DE X e te f) (hr : DA X es tr fr) (hs : starEach (e :: es) X.env = (false, eval e X.env) :: starEach es X.env := by rfl) : DA X (e :: es) (tCons te tr) (aCons f fr) := ⟨pa_cons h.p hr.p hs, fun B0 H0 B H σ en ds hE e Q k => by
  obtain ⟨d, e1, e⟩ := obind e
  obtain ⟨r, e2, rfl⟩ := omap e
  refine h.c B0 H0 B H σ en d hE e1 _ fun v B1 H1 x r1 => ?_
  exact hr.c B0 H0 B1 H1 σ en r (hE.up x) e2 _ fun vs B2 H2 y r2 => k _ B2 H2 (x.trans y) (.cons (r1.up y.bb) r2)⟩
@[simp] def dTup (g : En → Option (List D)) : En → Option D := fun en => (g en).bind fun ds => if ds.length ≤ lim then some (.tup ds) else none
theorem de_tup {x1} (h : DA X es tr fr) : DE X (.Tuple es x1 pos) (tTup tr) (dTup fr) := ⟨pe_tup h.p, fun B0 H0 B H σ en d hE e Q k => by
  obtain ⟨ds, e1, e⟩ := obind e
  obtain ⟨hl, rfl⟩ := oite e
  refine h.c B0 H0 B H σ en ds hE e1 _ fun vs B1 H1 x r => ⟨by rw [r.len]; exact lim_le hl, fun p hp => ?_⟩
  exact k _ _ _ (x.trans (Ext.new x.bh hp)) (.tup upd_same (r.up (Ex.new (fresh_back x.bh hp))))⟩
@[simp] def lLst (g : En → Option (List D)) : En → Option (List D) := fun en => (g en).bind fun ds => if ds.length ≤ lim then some ds else none
theorem ext_fresh {B' H' : Hp} {p : Addr} (x : Ext B H B' H') (h : H' p = none) : H p = none := fresh_back x.hh h
theorem dl_lst (h : DA X es tr fr) : DL X (.List es pos) (tLst tr) (lLst fr) := ⟨pe_lst h.p, fun B0 H0 B H σ en d hE e Q k => by
  obtain ⟨ds, e1, e⟩ := obind e
  obtain ⟨hl, rfl⟩ := oite e
  refine h.c B0 H0 B H σ en ds hE e1 _ fun vs B1 H1 x r => ⟨by rw [r.len]; exact lim_le hl, fun p hp => ?_⟩
  exact k p vs B1 _ (x.trans (Ext.newM x.bh hp)) (ext_fresh x hp) (fresh_back x.bh hp) upd_same r⟩
@[simp] def dL (g : En → Option (List D)) : En → Option D := fun en => (g en).map .lst
theorem ext_keep {B' H' : Hp} {p : Addr} {o : HO} (x : Ext B H B' H') (h0 : H p = none) (hb : B' p = none) (h : H' p = some o) : Ext B H (upd B' p o) H' := by
  refine ⟨x.bb.trans (Ex.new hb), fun a u q => ?_, x.hh, fun q hq => ?_⟩
  · by_cases ha : a = p
    · subst ha; rw [upd_same] at q; rw [h, ← q]
    · rw [upd_ne ha] at q; exact x.bh a u q
  · rw [upd_ne (by rintro rfl; exact hq.1 h0)]; exact x.st q hq
theorem ce_L {g : En → Option (List D)} (h : CL K te g) : CE K te (dL g) := fun B0 H0 B H σ en d hE e Q k => by
  obtain ⟨ds, e1, rfl⟩ := omap e
  refine h B0 H0 B H σ en ds hE e1 _ fun p vs B1 H1 x h0 hb hp r => ?_
  exact k _ _ _ (ext_keep x h0 hb hp) (.lst (SqL.of upd_same) (r.up (Ex.new hb)))
theorem DL.de {g : En → Option (List D)} (h : DL X e te g) : DE X e te (dL g) := ⟨h.p, ce_L h.c⟩
@[simp] def lCat (g g' : En → Option (List D)) : En → Option (List D) := fun en => (g en).bind fun xs => (g' en).bind fun ys => if xs.length + ys.length ≤ lim then some (xs ++ ys) else none
theorem dl_cat {g g' : En → Option (List D)} (h : DL X a ta g) (h' : DL X b tb g') : DL X (.BinOp a .Add b pos) (tOp rCat ta tb) (lCat g g') := ⟨pe_op op_cat h.p h'.p, fun B0 H0 B H σ en ds hE e Q k => by
  obtain ⟨xs, e1, e⟩ := obind e
  obtain ⟨ys, e2, e⟩ := obind e
  obtain ⟨hl, rfl⟩ := oite e
  refine h.c B0 H0 B H σ en xs hE e1 _ fun p vs B1 H1 x _ _ hp r1 => ?_
  refine h'.c B0 H0 B1 H1 σ en ys (hE.up x) e2 _ fun q ws B2 H2 y _ _ hq r2 => ?_
  refine ⟨p, q, vs, ws, rfl, rfl, y.hh p _ hp, hq, by rw [r1.len, r2.len]; exact lim_le hl, fun z hz => ?_⟩
  exact k z _ B2 _ ((x.trans y).trans (Ext.newM y.bh hz)) (ext_fresh (x.trans y) hz) (fresh_back y.bh hz) upd_same ((r1.up y.bb).app r2)⟩
@[simp] def lRep (g : En → Option (List D)) (f : En → Option D) : En → Option (List D) := fun en => (g en).bind fun xs => (f en).bind fun
  | .int n => if n.natAbs ≤ 1000 ∧ xs.length ≤ 1000 then some (List.replicate n.toNat xs).flatten else none
  | _ => none
def ClD (K : PySem.W.Frag) (r : List V → Hp → VK → Prop) (g : List D → Option D) : Prop := ∀ B H vs ds d, Ex B H → RpAll K B vs ds → g ds = some d → ∀ Q : VK, Kp K B H d Q → r vs H Q
@[simp] def dCB (g : List D → Option D) (fr : En → Option (List D)) : En → Option D := fun en => (fr en).bind g
theorem ce_cb {r : List V → Hp → VK → Prop} {g : List D → Option D} (hr : ClD K r g) (h : CA K tr fr) : CE K (tCB r tr) (dCB g fr) := fun B0 H0 B H σ en d hE e Q k => by
  obtain ⟨ds, e1, e⟩ := obind e
  refine h B0 H0 B H σ en ds hE e1 _ fun vs B1 H1 x q => ?_
  exact hr B1 H1 vs ds d x.bh q e Q fun v B2 H2 y r2 => k v B2 H2 (x.trans y) r2
theorem ClD.or {r r' : List V → Hp → VK → Prop} {g g' : List D → Option D} (h : ClD K r g) (h' : ClD K r' g') : ClD K (fun xs H Q => r xs H Q ∨ r' xs H Q) (fun ds => (g ds).or (g' ds)) := fun B H vs ds d hE hr e Q k => by
  have e : (g ds).or (g' ds) = some d := e
  cases q : g ds with
  | some z => rw [q] at e; cases e; exact .inl (h B H vs ds _ hE hr q Q k)
  | none => rw [q] at e; exact .inr (h' B H vs ds d hE hr e Q k)
@[simp] def gLen : List D → Option D
  | [.lst ds] => some (.int ds.length)
  | [.tup ds] => some (.int ds.length)
  | [.str z] => if z.length ≤ lim then some (.int z.length) else none
  | [.dic ks _] => some (.int ks.length)
  | _ => none
def rLenA (K : PySem.W.Frag) : List V → Hp → VK → Prop := fun xs H Q => (∃ p ys, xs = [.ref p] ∧ (SqL K H p ys ∨ SqT K H p ys) ∧ Q (.int ys.length) H) ∨ ((∃ z, xs = [.str z] ∧ z.length ≤ sizeLine ∧ Q (.int z.length) H) ∨ (∃ a kvs, xs = [V.ref a] ∧ Rd H a (.dK kvs) ∧ Q (.int kvs.length) H))
theorem call_lenR : CallR X (.builtin "len") (fun xs H Q => ∃ a kvs, xs = [V.ref a] ∧ Rd H a (.dK kvs) ∧ Q (.int kvs.length) H) := by
  intro pins s σ H xs us Q I r h
  obtain ⟨a, kvs, rfl, ha, q⟩ := h
  obtain ⟨u, rfl, ru⟩ := vals1 r
  cases ru
  exact d_len I ha fun t s' I' => ⟨.int kvs.length, H, I', ⟨t, rfl⟩, q⟩
theorem call_lenA : CallR X (.builtin "len") (rLenA X.K) := call_len_seq.or (call_len_str.or call_lenR)
theorem RpAll.one {vs : List V} {d : D} (h : RpAll K B vs [d]) : ∃ v, vs = [v] ∧ Rp K B v d := by
  cases h with
  | cons a b => cases b; exact ⟨_, rfl, a⟩
theorem RpAll.two {vs : List V} {d d' : D} (h : RpAll K B vs [d, d']) : ∃ v v', vs = [v, v'] ∧ Rp K B v d ∧ Rp K B v' d' := by
  cases h with
  | cons a b =>
    cases b with
    | cons a' b' => cases b'; exact ⟨_, _, rfl, a, a'⟩
theorem cl_len : ClD K (rLenA K) gLen := fun B H vs ds d hE hr e Q k => by
  unfold gLen at e
  split at e
  · obtain ⟨v, rfl, r⟩ := hr.one
    cases e
    cases r with
    | lst s q => exact .inl ⟨_, _, rfl, .inl (ex_l hE s), by rw [q.len]; exact kp_flat k hE (.int _)⟩
  · obtain ⟨v, rfl, r⟩ := hr.one
    cases e
    cases r with
    | tup s_ q => have s := SqT.of (K := K) s_; exact .inl ⟨_, _, rfl, .inr (ex_t hE s), by rw [q.len]; exact kp_flat k hE (.int _)⟩
  · obtain ⟨v, rfl, r⟩ := hr.one
    obtain ⟨hl, rfl⟩ := oite e
    cases r
    exact .inr (.inl ⟨_, rfl, lim_le hl, kp_flat k hE (.int _)⟩)
  · obtain ⟨v, rfl, r⟩ := hr.one
    cases e
    cases r with
    | dic s q =>
      refine .inr (.inr ⟨_, _, rfl, ex_rd hE s, ?_⟩)
      rw [List.length_map] at k
      exact kp_flat k hE (.int _)
  · cases e
theorem de_len {p : Pos} (hg : Gl X "len") (hm : X.mg "len" = none) (ha : DE X a ta fa) (hs : starEach [a] X.env = (false, eval a X.env) :: starEach [] X.env := by rfl) (hpl : (backTo pos (starEach [] X.env)).any (·.1) = false := by rfl) :
    DE X (.Call (.Name "len" p) [a] [] pos) (tCB (rLenA X.K) (tCons ta tNil)) (dCB gLen (aCons fa aNil)) := ⟨pe_callB call_lenA hg hm PySem.boot_len (pa_cons ha.p pa_nil hs) (by decide) (by decide) hs hpl, ce_cb cl_len (da_cons ha da_nil hs).c⟩
@[simp] def gMin2 : List D → Option D
  | [.int i, .int j] => some (.int (if j < i then j else i))
  | _ => none
@[simp] def gMax2 : List D → Option D
  | [.int i, .int j] => some (.int (if j > i then j else i))
  | _ => none
def rMin2 : List V → Hp → VK → Prop := fun xs H Q => ∃ i j, xs = [.int i, .int j] ∧ Q (.int (if j < i then j else i)) H
def rMx2 : List V → Hp → VK → Prop := fun xs H Q => ∃ i j, xs = [.int i, .int j] ∧ Q (.int (if j > i then j else i)) H
theorem cl_min2 : ClD K rMin2 gMin2 := fun B H vs ds d hE hr e Q k => by
  unfold gMin2 at e
  split at e
  · obtain ⟨v, v', rfl, r, r'⟩ := hr.two
    cases e; cases r; cases r'
    exact ⟨_, _, rfl, kp_flat k hE (.int _)⟩
  · cases e
theorem cl_max2 : ClD K rMx2 gMax2 := fun B H vs ds d hE hr e Q k => by
  unfold gMax2 at e
  split at e
  · obtain ⟨v, v', rfl, r, r'⟩ := hr.two
    cases e; cases r; cases r'
    exact ⟨_, _, rfl, kp_flat k hE (.int _)⟩
  · cases e
theorem de_min2 {p : Pos} (hc : X.calm = true) (hg : Gl X "min") (hm : X.mg "min" = none) (h : DA X [a, b] tr fr) (hs : starEach [a, b] X.env = (false, eval a X.env) :: starEach [b] X.env := by rfl) (hpl : (backTo pos (starEach [b] X.env)).any (·.1) = false := by rfl) :
    DE X (.Call (.Name "min" p) [a, b] [] pos) (tCB rMin2 tr) (dCB gMin2 fr) := ⟨pe_callB (call_min2 hc) hg hm (by decide +kernel) h.p (by decide) (by decide) hs hpl, ce_cb cl_min2 h.c⟩
theorem de_max2 {p : Pos} (hc : X.calm = true) (hg : Gl X "max") (hm : X.mg "max" = none) (h : DA X [a, b] tr fr) (hs : starEach [a, b] X.env = (false, eval a X.env) :: starEach [b] X.env := by rfl) (hpl : (backTo pos (starEach [b] X.env)).any (·.1) = false := by rfl) :
    DE X (.Call (.Name "max" p) [a, b] [] pos) (tCB rMx2 tr) (dCB gMax2 fr) := ⟨pe_callB (call_max2 hc) hg hm (by decide +kernel) h.p (by decide) (by decide) hs hpl, ce_cb cl_max2 h.c⟩
def intsOf : List D → Option (List Int)
  | [] => some []
  | .int i :: r => (intsOf r).map (i :: ·)
  | _ :: _ => none
theorem RpAll.ints : ∀ {vs : List V} {ds : List D} {ns : List Int}, RpAll K B vs ds → DD.intsOf ds = some ns → vs = ns.map V.int
  | _, _, _, .nil, e => by cases e; rfl
  | _, _, _, .cons (d := d) r t, e => by
    cases d <;> first | (unfold DD.intsOf at e; cases e; done) | skip
    unfold DD.intsOf at e
    obtain ⟨ms, e1, rfl⟩ := omap e
    cases r
    rw [RpAll.ints t e1] <;> rfl
@[simp] def gSum : List D → Option D
  | [.lst ds] => (intsOf ds).map fun ns => .int ns.sum
  | _ => none
theorem cl_sum : ClD K (rSum K) gSum := fun B H vs ds d hE hr e Q k => by
  unfold gSum at e
  split at e
  · obtain ⟨v, rfl, r⟩ := hr.one
    obtain ⟨ns, e1, rfl⟩ := omap e
    cases r with
    | lst s q =>
      have := q.ints e1
      subst this
      exact ⟨_, ns, rfl, ex_l hE s, kp_flat k hE (.int _)⟩
  · cases e
theorem de_sum {p : Pos} (hc : X.calm = true) (hg : Gl X "sum") (hm : X.mg "sum" = none) (ha : DE X a ta fa) (hs : starEach [a] X.env = (false, eval a X.env) :: starEach [] X.env := by rfl) (hpl : (backTo pos (starEach [] X.env)).any (·.1) = false := by rfl) :
    DE X (.Call (.Name "sum" p) [a] [] pos) (tCB (rSum X.K) (tCons ta tNil)) (dCB gSum (aCons fa aNil)) := ⟨pe_callB (cr_sum hc) hg hm (by decide +kernel) (pa_cons ha.p pa_nil hs) (by decide) (by decide) hs hpl, ce_cb cl_sum (da_cons ha da_nil hs).c⟩
def boolsOf : List D → Option (List Bool)
  | [] => some []
  | .bl i :: r => (boolsOf r).map (i :: ·)
  | _ :: _ => none
theorem RpAll.bools : ∀ {vs : List V} {ds : List D} {ns : List Bool}, RpAll K B vs ds → DD.boolsOf ds = some ns → vs = ns.map V.bl
  | _, _, _, .nil, e => by cases e; rfl
  | _, _, _, .cons (d := d) r t, e => by
    cases d <;> first | (unfold DD.boolsOf at e; cases e; done) | skip
    unfold DD.boolsOf at e
    obtain ⟨ms, e1, rfl⟩ := omap e
    cases r
    rw [RpAll.bools t e1] <;> rfl
@[simp] def gAll : List D → Option D
  | [.lst ds] => (boolsOf ds).map fun ns => .bl (ns.all id)
  | _ => none
@[simp] def gAny : List D → Option D
  | [.lst ds] => (boolsOf ds).map fun ns => .bl (ns.any id)
  | _ => none
theorem cl_any : ClD K (rAny K) gAny := fun B H vs ds d hE hr e Q k => by
  unfold gAny at e
  split at e
  · obtain ⟨v, rfl, r⟩ := hr.one
    obtain ⟨ns, e1, rfl⟩ := omap e
    cases r with
    | lst s q =>
      have := q.bools e1
      subst this
      exact ⟨_, ns, rfl, ex_l hE s, kp_flat k hE (.bl _)⟩
  · cases e
theorem de_any {p : Pos} (hc : X.calm = true) (hg : Gl X "any") (hm : X.mg "any" = none) (ha : DE X a ta fa) (hs : starEach [a] X.env = (false, eval a X.env) :: starEach [] X.env := by rfl) (hpl : (backTo pos (starEach [] X.env)).any (·.1) = false := by rfl) :
    DE X (.Call (.Name "any" p) [a] [] pos) (tCB (rAny X.K) (tCons ta tNil)) (dCB gAny (aCons fa aNil)) := ⟨pe_callB (cr_any hc) hg hm (by decide +kernel) (pa_cons ha.p pa_nil hs) (by decide) (by decide) hs hpl, ce_cb cl_any (da_cons ha da_nil hs).c⟩
@[simp] def gTuple : List D → Option D
  | [.lst ds] => some (.tup ds)
  | [.tup ds] => some (.tup ds)
  | _ => none
def rTupleOf (K : PySem.W.Frag) : List V → Hp → VK → Prop := fun xs H Q => ∃ p ys, xs = [.ref p] ∧ ((SqL K H p ys ∧ ∀ l, H l = none → Q (.ref l) (upd H l (.tup ys))) ∨ (SqT K H p ys ∧ Q (.ref p) H))
theorem cl_tuple : ClD K (rTupleOf K) gTuple := fun B H vs ds d hE hr e Q k => by
  unfold gTuple at e
  split at e
  · obtain ⟨v, rfl, r⟩ := hr.one
    cases e
    cases r with
    | lst s q => exact ⟨_, _, rfl, .inl ⟨ex_l hE s, fun l hl => k _ _ _ (Ext.new hE hl) (.tup upd_same (q.up (Ex.new (fresh_back hE hl))))⟩⟩
  · obtain ⟨v, rfl, r⟩ := hr.one
    cases e
    cases r with
    | tup s_ q => have s := SqT.of (K := K) s_; exact ⟨_, _, rfl, .inr ⟨ex_t hE s, kp_flat k hE (.tup s_ q)⟩⟩
  · cases e
theorem de_tuple {p : Pos} (hg : Gl X "tuple") (hm : X.mg "tuple" = none) (ha : DE X a ta fa) (hs : starEach [a] X.env = (false, eval a X.env) :: starEach [] X.env := by rfl) (hpl : (backTo pos (starEach [] X.env)).any (·.1) = false := by rfl) :
    DE X (.Call (.Name "tuple" p) [a] [] pos) (tCB (rTupleOf X.K) (tCons ta tNil)) (dCB gTuple (aCons fa aNil)) := ⟨pe_callTy call_tuple_of hg hm (by decide +kernel) (pa_cons ha.p pa_nil hs) (by decide) (by decide) hs hpl, ce_cb cl_tuple (da_cons ha da_nil hs).c⟩
@[simp] def lListOf (f : En → Option D) : En → Option (List D) := fun en => (f en).bind fun
  | .lst ds => some ds
  | .tup ds => some ds
  | _ => none
def rListOf (K : PySem.W.Frag) : List V → Hp → VK → Prop := fun xs H Q => ∃ p ys, xs = [.ref p] ∧ (SqL K H p ys ∨ SqT K H p ys) ∧ ∀ l, H l = none → Q (.ref l) (upd H l (.lst ys))
theorem dl_list {p : Pos} (hg : Gl X "list") (hm : X.mg "list" = none) (ha : DE X a ta fa) (hs : starEach [a] X.env = (false, eval a X.env) :: starEach [] X.env := by rfl) (hpl : (backTo pos (starEach [] X.env)).any (·.1) = false := by rfl) :
    DL X (.Call (.Name "list" p) [a] [] pos) (tCB (rListOf X.K) (tCons ta tNil)) (lListOf fa) := ⟨pe_callTy call_list_of hg hm (by decide +kernel) (pa_cons ha.p pa_nil hs) (by decide) (by decide) hs hpl, fun B0 H0 B H σ en ds hE e Q k => by
  obtain ⟨d, e1, e⟩ := obind e
  refine ha.c B0 H0 B H σ en d hE e1 _ fun v B1 H1 x r => ?_
  split at e
  · cases e
    cases r with
    | lst s q => exact ⟨_, _, rfl, .inl (ex_l x.bh s), fun l hl => k l _ B1 _ (x.trans (Ext.newM x.bh hl)) (ext_fresh x hl) (fresh_back x.bh hl) upd_same q⟩
  · cases e
    cases r with
    | tup s_ q => have s := SqT.of (K := X.K) s_; exact ⟨_, _, rfl, .inr (ex_t x.bh s), fun l hl => k l _ B1 _ (x.trans (Ext.newM x.bh hl)) (ext_fresh x hl) (fresh_back x.bh hl) upd_same q⟩
  · cases e⟩
end
end DD

namespace DD
open PySem PySem.Spec PyProof.Rows L2 Evl

section
variable {K : PySem.W.Frag} {X : Cx} {pos : Pos} {a b c e : Expr} {ta tb tc te : TE} {fa fb fc f : En → Option D} {B H : Hp} {tt tu : TT} {ft fu : En → Option Bool} {es rest : List Expr} {tr : TA} {fr : En → Option (List D)}

@[simp] def lSplit (fa fb : En → Option D) : En → Option (List D) := fun en => (fa en).bind fun x => (fb en).bind fun y => match x, y with
  | .str a, .str b => if (b.length == 0) = false ∧ a.length + 2 ≤ lim then some ((Txt.split a b).map D.str) else none
  | _, _ => none
def strsOf : List D → Option (List Str)
  | [] => some []
  | .str i :: r => (strsOf r).map (i :: ·)
  | _ :: _ => none
theorem RpAll.strsOf : ∀ {vs : List V} {ds : List D} {ns : List Str}, RpAll K B vs ds → DD.strsOf ds = some ns → vs = ns.map V.str
  | _, _, _, .nil, e => by cases e; rfl
  | _, _, _, .cons (d := d) r t, e => by
    cases d <;> first | (unfold DD.strsOf at e; cases e; done) | skip
    unfold DD.strsOf at e
    obtain ⟨ms, e1, rfl⟩ := omap e
    cases r
    rw [RpAll.strsOf t e1] <;> rfl
@[simp] def dJoin (fa fb : En → Option D) : En → Option D := fun en => (fa en).bind fun x => (fb en).bind fun y => match x, y with
  | .str a, .lst ds => (strsOf ds).bind fun ys => if (ys.map (·.length)).sum + ys.length * a.length ≤ lim then some (.str (Txt.join a ys)) else none
  | .str a, .tup ds => (strsOf ds).bind fun ys => if (ys.map (·.length)).sum + ys.length * a.length ≤ lim then some (.str (Txt.join a ys)) else none
  | _, _ => none
@[simp] def keyOf : D → Option Key
  | .int i => some (.inl i)
  | .str x => some (.inr x)
  | _ => none
def look : List Key → List D → Key → Option D
  | j :: ks, d :: ds, k => if j = k then some d else look ks ds k
  | _, _, _ => none
def putKs : List Key → List D → Key → D → List Key × List D
  | j :: ks, d :: ds, k, x => if j = k then (j :: ks, x :: ds) else (j :: (putKs ks ds k x).1, d :: (putKs ks ds k x).2)
  | _, _, k, x => ([k], [x])
@[simp] def dDget (fa fb : En → Option D) : En → Option D := fun en => (fa en).bind fun x => (fb en).bind fun y => (keyOf y).bind fun k => match x with
  | .dic ks ds => look ks ds k
  | _ => none
@[simp] def dDin (neg : Bool) (fa fb : En → Option D) : En → Option D := fun en => (fa en).bind fun y => (fb en).bind fun x => (keyOf y).bind fun k => match x with
  | .dic ks ds => some (.bl (if neg then !(look ks ds k).isSome else (look ks ds k).isSome))
  | _ => none
@[simp] def dDget2 (fa fb fc : En → Option D) : En → Option D := fun en => (fa en).bind fun x => (fb en).bind fun y => (fc en).bind fun z => (keyOf y).bind fun k => match x with
  | .dic ks ds => some ((look ks ds k).getD z)
  | _ => none
def thawT (t : Tr) : Sl := match t.d with
  | some d => .dat d
  | none => .ro t
@[simp] def Sl.thaw : Sl → Sl
  | .own ds => .dat (.lst ds)
  | .owd ks ds => .dat (.dic ks ds)
  | .owt ks ds => .dat (.dit ks ds)
  | .tre t => thawT t
  | .par t => thawT t
  | s => s
@[simp] def dScal (f : En → Option D) : En → Option D := fun en => (f (en.map Sl.thaw)).bind fun d => if d.flat = true then some d else none
theorem thawT_or (t : Tr) : (∃ d, t.d = some d ∧ thawT t = .dat d) ∨ (t.d = none ∧ thawT t = .ro t) := by
  unfold thawT
  cases h : t.d with
  | none => exact .inr ⟨rfl, rfl⟩
  | some d => exact .inl ⟨d, rfl, rfl⟩
theorem thaw_no_par {s : Sl} {t : Tr} : s.thaw ≠ .par t := by
  have k : ∀ u, thawT u ≠ .par t := fun u z => by
    rcases thawT_or u with ⟨d, _, e⟩ | ⟨_, e⟩ <;> rw [e] at z <;> cases z
  cases s with
  | tre u => exact k u
  | par u => exact k u
  | _ => exact fun z => nomatch z
theorem thaw_ro {s : Sl} {t : Tr} (h : s.thaw = .ro t) : s = .ro t ∨ (s = .tre t ∨ s = .par t) ∧ t.d = none := by
  have k : ∀ u, thawT u = .ro t → u = t ∧ t.d = none := fun u z => by
    rcases thawT_or u with ⟨d, _, e⟩ | ⟨n, e⟩
    · rw [e] at z; cases z
    · rw [e] at z; cases z; exact ⟨rfl, n⟩
  cases s with
  | tre u => obtain ⟨rfl, n⟩ := k u h; exact .inr ⟨.inl rfl, n⟩
  | par u => obtain ⟨rfl, n⟩ := k u h; exact .inr ⟨.inr rfl, n⟩
  | ro u => cases h; exact .inl rfl
  | _ => cases h
theorem thaw_ft {s : Sl} {o : Option V} {q : Addr} : ¬ Ft K B H s.thaw o q := by
  have k : ∀ u, ¬ Ft K B H (thawT u) o q := fun u => by
    rcases thawT_or u with ⟨d, _, e⟩ | ⟨_, e⟩ <;> rw [e] <;> exact id
  cases s with
  | tre u => exact k u
  | par u => exact k u
  | _ => exact id
theorem SlOk.thaw {B1 : Hp} {s : Sl} {o : Option V} (h : SlOk K B H s o) (hB : Ex B B1) (k : ∀ d, s.thaw = .dat d → ∀ q, Ft K B H s o q → ∀ u, H q = some u → B1 q = some u) : SlOk K B1 H s.thaw o := by
  have tr : ∀ (t : Tr) (v : V) (A : List Addr), o = some v → Ow K B H t v A → (∀ d, t.d = some d → ∀ q ∈ A, ∀ u, H q = some u → B1 q = some u) → SlOk K B1 H (thawT t) o := fun t v A e w kk => by
    rcases thawT_or t with ⟨d, hd, e2⟩ | ⟨_, e2⟩
    · rw [e2]; exact ⟨v, e, Ow.rp hB t v A d w (kk d hd) hd⟩
    · rw [e2]; trivial
  cases s with
  | no => trivial
  | dat d => obtain ⟨v, q1, q2⟩ := h; exact ⟨v, q1, q2.up hB⟩
  | own ds =>
    obtain ⟨p, vs, rfl, q2, q3, q4⟩ := h
    exact ⟨_, rfl, .lst (SqL.of (k _ rfl _ rfl _ q3)) (q4.up hB)⟩
  | owd ks ds =>
    obtain ⟨p, vs, rfl, q2, q3, rfl, q4⟩ := h
    exact ⟨_, rfl, .dic (.inl (k _ rfl _ rfl _ q3)) (q4.up hB)⟩
  | owt ks ds =>
    obtain ⟨p, vs, rfl, q2, q3, rfl, q4⟩ := h
    exact ⟨_, rfl, .dit (.inl (k _ rfl _ rfl _ q3)) (q4.up hB)⟩
  | tre t =>
    obtain ⟨v, A, e, w⟩ := h
    exact tr t v A e w fun d hd q hq u hu => k d (by show thawT t = _; unfold thawT; rw [hd]) q ⟨v, A, e, w, hq⟩ u hu
  | par t =>
    obtain ⟨v, A, e, w⟩ := h
    exact tr t v A e w fun d hd q hq u hu => k d (by show thawT t = _; unfold thawT; rw [hd]) q ⟨v, A, e, w, hq⟩ u hu
  | ro t => trivial
theorem EnOk.roH {B0 : Hp} {H0 : HB} {σ : L2.St} {en : En} (h : EnOk K B0 H0 B H σ en) {t : Tr} {v : V} {A : List Addr} (w : Ow K B0 H0 t v A) : (∀ q ∈ A, H q = H0 q ∧ B q = none) ∧ Ow K B H t v A := by
  have k : ∀ q ∈ A, H q = H0 q ∧ B q = none := fun q hq => by
    obtain ⟨f1, f2⟩ := Ow.free t v A w q hq
    refine ⟨?_, (h.ext.st q f2).trans f1⟩
    cases c : (H0 : Hp) q with
    | none => exact absurd c f2.1
    | some u => exact h.ext.hh q u c
  exact ⟨k, Ow.mono h.ext.bb t v A w k⟩
open Classical in
theorem EnOk.thawX {B0 : Hp} {H0 : HB} {σ : L2.St} {en : En} (h : EnOk K B0 H0 B H σ en) : ∃ (own : Addr → Prop) (B1 : Hp), (∀ q, own q → B1 q = H q) ∧ (∀ q, ¬ own q → B1 q = B q) ∧ (∀ q, own q → B q = none ∧ Mt H q) ∧ Ex B B1 ∧ Ex B1 H ∧ EnOk K B1 ⟨H, H0.rt⟩ B1 H σ (en.map Sl.thaw) := by
  let own : Addr → Prop := fun q => ∃ (i : Nat) (s : Sl) (o : Option V) (d : D), en[i]? = some s ∧ σ[i]? = some o ∧ s.thaw = .dat d ∧ Ft K B H s o q
  let B1 : Hp := fun q => if own q then H q else B q
  have hB : Ex B B1 := fun q o e => by
    show (if own q then H q else B q) = some o
    by_cases hq : own q
    · rw [if_pos hq]; exact h.bh q o e
    · rw [if_neg hq]; exact e
  have hH : Ex B1 H := fun q o e => by
    have e : (if own q then H q else B q) = some o := e
    by_cases hq : own q
    · rw [if_pos hq] at e; exact e
    · rw [if_neg hq] at e; exact h.bh q o e
  have hO : ∀ q o, own q → H q = some o → B1 q = some o := fun q o hq e => by
    show (if own q then H q else B q) = some o
    rw [if_pos hq]; exact e
  have hN : ∀ q, ¬ own q → B q = none → B1 q = none := fun q hq e => by
    show (if own q then H q else B q) = none
    rw [if_neg hq]; exact e
  refine ⟨own, B1, fun q hq => if_pos hq, fun q hq => if_neg hq, fun q ⟨i, s, o, d, a, b, c, f⟩ => (h.slot i s o a b).free f, hB, hH, ⟨Ext.refl hH, by rw [List.length_map, h.len], fun i s o e1 e2 => ?_, fun i j si sj oi oj q e1 e2 e3 e4 f => ?_, fun i s o q e1 e2 f => ?_, fun i t o e1 e2 => ?_, fun i t o e1 e2 => ?_⟩⟩
  · rw [List.getElem?_map] at e1
    obtain ⟨s', e3, rfl⟩ := omap e1
    exact (h.slot i s' o e3 e2).thaw hB fun d hd q f u hu => hO q u ⟨i, s', o, d, e3, e2, hd, f⟩ hu
  · rw [List.getElem?_map] at e1
    obtain ⟨s', e3, rfl⟩ := omap e1
    exact (thaw_ft f).elim
  · rw [List.getElem?_map] at e1
    obtain ⟨s', e3, rfl⟩ := omap e1
    exact (thaw_ft f).elim
  · rw [List.getElem?_map] at e1
    obtain ⟨s', e3, e4⟩ := omap e1
    exact (thaw_no_par e4).elim
  · rw [List.getElem?_map] at e1
    obtain ⟨s', e3, e4⟩ := omap e1
    rcases thaw_ro e4 with rfl | ⟨z, hd⟩
    · obtain ⟨v, A, e5, w⟩ := h.ro i t o e3 e2
      obtain ⟨k, w'⟩ := h.roH w
      refine ⟨v, A, e5, Ow.mono hB t v A w' fun q hq => ⟨rfl, hN q (fun z => ?_) (k q hq).2⟩⟩
      obtain ⟨j, s, o', d, a1, a2, a3, a4⟩ := z
      have := h.frs j s o' q a1 a2 a4
      exact (Ow.free t v A w q hq).2.1 this
    · have : ∃ v A, o = some v ∧ Ow K B H t v A ∧ (∀ q ∈ A, Ft K B H s' o q) := by
        rcases z with rfl | rfl
        · obtain ⟨v, A, e5, w⟩ := h.slot i _ o e3 e2
          exact ⟨v, A, e5, w, fun q hq => ⟨v, A, e5, w, hq⟩⟩
        · obtain ⟨v, A, e5, w⟩ := h.slot i _ o e3 e2
          exact ⟨v, A, e5, w, fun q hq => ⟨v, A, e5, w, hq⟩⟩
      obtain ⟨v, A, e5, w, ft⟩ := this
      refine ⟨v, A, e5, Ow.mono hB t v A w fun q hq => ⟨rfl, hN q (fun z2 => ?_) (Ow.free t v A w q hq).1⟩⟩
      obtain ⟨j, s, o', d, a1, a2, a3, a4⟩ := z2
      have : j = i := h.apart j i s s' o' o q a1 e3 a2 e2 a4 (ft q hq)
      subst this
      rw [e3] at a1
      cases a1
      rw [e4] at a3
      cases a3
theorem EnOk.thaw {B0 : Hp} {H0 : HB} {σ : L2.St} {en : En} (h : EnOk K B0 H0 B H σ en) : ∃ B1, Ex B1 H ∧ EnOk K B1 ⟨H, H0.rt⟩ B1 H σ (en.map Sl.thaw) := by
  obtain ⟨own, B1, _, _, _, _, a, b⟩ := h.thawX
  exact ⟨B1, a, b⟩
theorem ce_scal (h : CE K te f) : CE K te (dScal f) := fun B0 H0 B H σ en d hE e Q k => by
  obtain ⟨d', e1, e⟩ := obind e
  obtain ⟨hf, rfl⟩ := oite e
  obtain ⟨B1, hB, hE1⟩ := hE.thaw
  refine h B1 ⟨H, H0.rt⟩ B1 H σ _ d' hE1 e1 _ fun v B2 H2 x r => ?_
  have := r.flat hf
  subst this
  exact k _ B H2 ⟨Ex.refl _, hE.bh.trans x.hh, x.hh, fun _ _ => rfl⟩ (.of_flat hf)
theorem DE.scal (h : DE X e te f) : DE X e te (dScal f) := ⟨h.p, ce_scal h.c⟩
@[simp] def tScal (f : En → Option Bool) : En → Option Bool := fun en => f (en.map Sl.thaw)
theorem ct_scal (h : CT K tt ft) : CT K tt (tScal ft) := fun B0 H0 B H σ en b hE e Q k => by
  obtain ⟨B1, hB, hE1⟩ := hE.thaw
  exact h B1 ⟨H, H0.rt⟩ B1 H σ _ b hE1 e _ fun B2 H2 x => k B H2 ⟨Ex.refl _, hE.bh.trans x.hh, x.hh, fun _ _ => rfl⟩
theorem DT.scal (h : DT X e tt ft) : DT X e tt (tScal ft) := ⟨h.p, ct_scal h.c⟩

@[simp] def oNo : En → Option (Option Int) := fun _ => some none
@[simp] def oInt (f : En → Option D) : En → Option (Option Int) := fun en => (f en).bind fun
  | .int i => some (some i)
  | _ => none
theorem do_none : DO X none tNoPart oNo := ⟨po_none, fun B0 H0 B H σ en o hE e Q k => by
  cases e
  exact k B H (Ext.refl hE.bh)⟩
theorem do_some (h : DE X e te f) : DO X (some e) (tPart te) (oInt f) := ⟨po_some h.p, fun B0 H0 B H σ en o hE q Q k => by
  obtain ⟨d, e1, q⟩ := obind q
  split at q
  · cases q
    refine h.c B0 H0 B H σ en _ hE e1 _ fun v B1 H1 x r => ?_
    cases r
    exact ⟨_, rfl, k B1 H1 x⟩
  · cases q⟩
def cutD (ds : List D) (lo hi : Option Int) : List D := (ds.drop (HT.sIx ds.length 0 lo)).take (HT.sIx ds.length ds.length hi - HT.sIx ds.length 0 lo)
theorem RpAll.cut {vs : List V} {ds : List D} (h : RpAll K B vs ds) (lo hi : Option Int) : RpAll K B (cutV vs lo hi) (cutD ds lo hi) := by
  unfold cutV cutD
  rw [h.len]
  exact (h.dp _).tk _
@[simp] def dCutS (fa : En → Option D) (fl fh : En → Option (Option Int)) : En → Option D := fun en => (fa en).bind fun x => (fl en).bind fun l => (fh en).bind fun h => match x with
  | .str z => if z.length ≤ lim then some (.str (cutS z l h)) else none
  | _ => none
variable {lo hi : Option Expr} {tl th : TO} {fl fh : En → Option (Option Int)}
@[simp] def lCutL (fa : En → Option D) (fl fh : En → Option (Option Int)) : En → Option (List D) := fun en => (fa en).bind fun x => (fl en).bind fun l => (fh en).bind fun h => match x with
  | .lst ds => some (cutD ds l h)
  | _ => none
theorem dl_cutL {p2 : Pos} (ha : DE X a ta fa) (hl : DO X lo tl fl) (hh : DO X hi th fh) : DL X (.Subscript a (.Slice lo hi none p2) pos) (tSl (rSlL X.K) ta tl th) (lCutL fa fl fh) := ⟨pe_slice sl_list ha.p hl.p hh.p, fun B0 H0 B H σ en d hE e Q k => by
  obtain ⟨x, e1, e⟩ := obind e
  obtain ⟨l, e2, e⟩ := obind e
  obtain ⟨h, e3, e⟩ := obind e
  refine ha.c B0 H0 B H σ en x hE e1 _ fun v B1 H1 x1 r1 => ?_
  refine hl.c B0 H0 B1 H1 σ en l (hE.up x1) e2 _ fun B2 H2 x2 => ?_
  refine hh.c B0 H0 B2 H2 σ en h (hE.up (x1.trans x2)) e3 _ fun B3 H3 x3 => ?_
  split at e
  · cases e
    cases r1 with
    | lst s q =>
      have x4 := (x1.trans x2).trans x3
      exact ⟨_, _, rfl, ex_l (x2.bb.trans (x3.bb.trans x3.bh)) s, fun p hp => k p _ B3 _ (x4.trans (Ext.newM x3.bh hp)) (ext_fresh x4 hp) (fresh_back x3.bh hp) upd_same ((q.up (x2.bb.trans x3.bb)).cut l h)⟩
  · cases e⟩
end
end DD

namespace DD
open PySem PySem.Spec PyProof.Rows L2 Evl

structure WalkD (K : PySem.W.Frag) (J : It) (B : Hp) (ds : List D) : Prop where
  go : ∀ (i : Nat) (H : Hp) (d : D), Ex B H → ds[i]? = some d → J.go i H
  yl : ∀ (i : Nat) (B1 H : Hp) (d : D) (x : V) (H' : Hp), Ex B B1 → Ex B1 H → ds[i]? = some d → J.yld i H x H' → ∃ B2, Ext B1 H B2 H' ∧ Rp K B2 x d
  stop : ∀ (i : Nat) (H : Hp), Ex B H → ds.length ≤ i → J.stop i H
def CI (K : PySem.W.Frag) (wi : TI) (f : En → Option (List D)) : Prop := ∀ B0 H0 B H σ en ds, EnOk K B0 H0 B H σ en → f en = some ds → ∀ R : It → Hp → Prop, (∀ J B' H', Ext B H B' H' → WalkD K J B' ds → R J H') → wi σ H R
structure DI (X : Cx) (tg e : Expr) (wi : TI) (f : En → Option (List D)) : Prop where
  p : PI X tg e wi
  c : CI X.K wi f
def CG (K : PySem.W.Frag) (g : TG) (gd : D → En → Option En) (is : List Nat) : Prop := ∀ B0 H0 B H σ en v d en', EnOk K B0 H0 B H σ en → Rp K B v d → gd d en = some en' → ∀ Q : L2.St → Hp → Prop,
  (∀ σ' B' H', Ext B H B' H' → EnOk K B0 H0 B' H' σ' en' → σ'.length = σ.length → (∀ j, j ∉ is → σ'[j]? = σ[j]?) → Q σ' H') → g v σ H Q
structure DG (X : Cx) (tg : Expr) (g : TG) (gd : D → En → Option En) (is : List Nat) : Prop where
  p : PG X tg g
  c : CG X.K g gd is

section
variable {K : PySem.W.Frag} {X : Cx} {pos : Pos} {tg a b c e : Expr} {ta tb tc te : TE} {fa fb fc f : En → Option D} {B H : Hp} {tt tu : TT} {ft fu : En → Option Bool} {es rest : List Expr} {tr : TA} {fr : En → Option (List D)}

theorem walk_l {p : Addr} {vs : List V} {ds : List D} (s : SqL K B p vs) (r : RpAll K B vs ds) : WalkD K (Itl K p) B ds where
  go := fun i H d hE e => by
    obtain ⟨v, h1, _⟩ := r.get i e
    exact ⟨vs, v, ex_l hE s, h1⟩
  yl := fun i B1 H d x H' h1 h2 e y => by
    obtain ⟨rfl, y⟩ := y
    obtain ⟨v, q1, q2⟩ := r.get i e
    have := y vs (ex_l (h1.trans h2) s)
    rw [q1] at this; cases this
    exact ⟨B1, Ext.refl h2, q2.up h1⟩
  stop := fun i H hE hl => ⟨vs, ex_l hE s, by rw [r.len]; exact hl⟩
theorem walk_t {p : Addr} {vs : List V} {ds : List D} (s : SqT K B p vs) (r : RpAll K B vs ds) : WalkD K (Itt K p) B ds where
  go := fun i H d hE e => by
    obtain ⟨v, h1, _⟩ := r.get i e
    exact ⟨vs, v, ex_t hE s, h1⟩
  yl := fun i B1 H d x H' h1 h2 e y => by
    obtain ⟨rfl, y⟩ := y
    obtain ⟨v, q1, q2⟩ := r.get i e
    have := y vs (ex_t (h1.trans h2) s)
    rw [q1] at this; cases this
    exact ⟨B1, Ext.refl h2, q2.up h1⟩
  stop := fun i H hE hl => ⟨vs, ex_t hE s, by rw [r.len]; exact hl⟩
def signs (z : Str) : List D := z.cps.toList.map fun c => .str ⟨#[c]⟩
theorem walk_s {z : Str} : WalkD K (Its z) B (signs z) where
  go := fun i H d hE e => by
    have h : i < (signs z).length := (List.getElem?_eq_some_iff.mp e).1
    unfold signs at h
    rw [List.length_map, Array.length_toList] at h
    exact h
  yl := fun i B1 H d x H' h1 h2 e y => by
    obtain ⟨rfl, c, hc, rfl⟩ := y
    unfold signs at e
    rw [List.getElem?_map, Array.getElem?_toList, hc] at e
    cases e
    exact ⟨B1, Ext.refl h2, .str _⟩
  stop := fun i H hE hl => by
    unfold signs at hl
    rw [List.length_map, Array.length_toList] at hl
    exact hl
def tSeqAny (K : PySem.W.Frag) (ta : TE) : TI := fun σ H R => iList K ta σ H R ∨ (iTup K ta σ H R ∨ iStr ta σ H R)
theorem pi_any {l : Expr} {tl : TE} (hl : PE X l tl) : PI X tg l (tSeqAny X.K tl) := ⟨fun pins s σ H R I h => h.elim ((pi_list hl).run pins s σ H R I) fun h => h.elim ((pi_tup hl).run pins s σ H R I) ((pi_str hl).run pins s σ H R I)⟩
@[simp] def itemsOf : D → Option (List D)
  | .lst ds => some ds
  | .tup ds => some ds
  | .str z => some (signs z)
  | _ => none
@[simp] def iAny (f : En → Option D) : En → Option (List D) := fun en => (f en).bind itemsOf
theorem di_any (h : DE X a ta fa) : DI X tg a (tSeqAny X.K ta) (iAny fa) := ⟨pi_any h.p, fun B0 H0 B H σ en ds hE e R k => by
  obtain ⟨d, e1, e⟩ := obind e
  have run := h.c B0 H0 B H σ en d hE e1
  unfold itemsOf at e
  split at e
  · cases e
    exact .inl (run _ fun v B1 H1 x r => by
      cases r with
      | lst s q => exact ⟨_, rfl, ⟨_, ex_l x.bh s⟩, k _ B1 H1 x (walk_l s q)⟩)
  · cases e
    exact .inr (.inl (run _ fun v B1 H1 x r => by
      cases r with
      | tup s_ q => have s := SqT.of (K := X.K) s_; exact ⟨_, rfl, ⟨_, ex_t x.bh s⟩, k _ B1 H1 x (walk_t s q)⟩))
  · cases e
    exact .inr (.inr (run _ fun v B1 H1 x r => by
      cases r
      exact ⟨_, rfl, k _ B1 H1 x walk_s⟩))
  · cases e⟩
def rngD (lo : Int) (c : Int) (n : Nat) : List D := (List.range n).map fun (i : Nat) => .int (lo + (i : Int) * c)
theorem rngD_get {lo c : Int} {n i : Nat} {d : D} (h : (rngD lo c n)[i]? = some d) : i < n ∧ d = .int (lo + (i : Int) * c) := by
  unfold rngD at h
  rw [List.getElem?_map] at h
  obtain ⟨j, h1, rfl⟩ := omap h
  obtain ⟨h2, h3⟩ := List.getElem?_eq_some_iff.mp h1
  rw [List.getElem_range] at h3
  subst h3
  rw [List.length_range] at h2
  exact ⟨h2, rfl⟩
theorem rngD_len {lo c : Int} {n : Nat} : (rngD lo c n).length = n := by unfold rngD; rw [List.length_map, List.length_range]
theorem walk_r {lo : Int} {n : Nat} : WalkD K (Itr lo n) B (rngD lo 1 n) where
  go := fun i H d hE e => (rngD_get e).1
  yl := fun i B1 H d x H' h1 h2 e y => by
    obtain ⟨rfl, rfl⟩ := y
    obtain ⟨_, rfl⟩ := rngD_get e
    rw [Int.mul_one]
    exact ⟨B1, Ext.refl h2, .int _⟩
  stop := fun i H hE hl => by rw [rngD_len] at hl; exact hl
@[simp] def iR1 (g : En → Option (List D)) : En → Option (List D) := fun en => (g en).bind fun
  | [.int j] => if j.natAbs ≤ 100000 then some (rngD 0 1 j.toNat) else none
  | _ => none
@[simp] def iR2 (g : En → Option (List D)) : En → Option (List D) := fun en => (g en).bind fun
  | [.int i, .int j] => if i.natAbs ≤ 100000 ∧ j.natAbs ≤ 100000 then some (rngD i 1 (j - i).toNat) else none
  | _ => none
@[simp] def iR3 (g : En → Option (List D)) : En → Option (List D) := fun en => (g en).bind fun
  | [.int i, .int j, .int c] => if c = -1 ∧ i.natAbs ≤ 100000 ∧ j.natAbs ≤ 100000 then some (rngD i (-1) (i - j).toNat) else none
  | _ => none
theorem di_r1 {p : Pos} (hg : Gl X "range") (hm : X.mg "range" = none) (h : DA X [a] tr fr) (hs : starEach [a] X.env = [(false, eval a X.env)] := by rfl) : DI X tg (.Call (.Name "range" p) [a] [] pos) (iRng1 tr) (iR1 fr) := ⟨pi_range1 hg hm h.p hs, fun B0 H0 B H σ en ds hE e R k => by
  obtain ⟨d, e1, e⟩ := obind e
  refine h.c B0 H0 B H σ en d hE e1 _ fun vs B1 H1 x r => ?_
  split at e
  · obtain ⟨h1, rfl⟩ := oite e
    obtain ⟨v, rfl, q⟩ := r.one
    cases q
    exact ⟨_, rfl, by omega, by omega, k _ B1 H1 x walk_r⟩
  · cases e⟩
theorem di_r2 {p : Pos} (hg : Gl X "range") (hm : X.mg "range" = none) (h : DA X [a, b] tr fr) (hs : starEach [a, b] X.env = [(false, eval a X.env), (false, eval b X.env)] := by rfl) (hs2 : starEach [b] X.env = [(false, eval b X.env)] := by rfl) :
    DI X tg (.Call (.Name "range" p) [a, b] [] pos) (iRng2 tr) (iR2 fr) := ⟨pi_range2 hg hm h.p hs hs2, fun B0 H0 B H σ en ds hE e R k => by
  obtain ⟨d, e1, e⟩ := obind e
  refine h.c B0 H0 B H σ en d hE e1 _ fun vs B1 H1 x r => ?_
  split at e
  · obtain ⟨⟨h1, h3⟩, rfl⟩ := oite e
    obtain ⟨v, v', rfl, r, r'⟩ := r.two
    cases r
    cases r'
    exact ⟨_, _, rfl, by omega, k _ B1 H1 x walk_r⟩
  · cases e⟩
@[simp] def gSet (i : Nat) : D → En → Option En := fun d en => some (en.set i (.dat d))
theorem cg_name (i : Nat) : CG K (gName i) (gSet i) [i] := fun B0 H0 B H σ en v d en' hE r e Q k => by
  cases e
  exact k _ B H (Ext.refl hE.bh) (hE.set i r) (List.length_set) fun j hj => List.getElem?_set_ne (fun z => hj (by rw [z]; exact List.mem_singleton.mpr rfl))
theorem dg_name {i : Nat} {x : Str} (h : PG X (.Name x pos) (gName i)) : DG X (.Name x pos) (gName i) (gSet i) [i] := ⟨h, cg_name i⟩
def CGs (K : PySem.W.Frag) (g : TGs) (gd : List D → En → Option En) (is : List Nat) : Prop := ∀ B0 H0 B H σ en vs ds en', EnOk K B0 H0 B H σ en → RpAll K B vs ds → gd ds en = some en' → ∀ Q : L2.St → Hp → Prop,
  (∀ σ' B' H', Ext B H B' H' → EnOk K B0 H0 B' H' σ' en' → σ'.length = σ.length → (∀ j, j ∉ is → σ'[j]? = σ[j]?) → Q σ' H') → g vs σ H Q
structure DGs (X : Cx) (ts : List Expr) (g : TGs) (gd : List D → En → Option En) (is : List Nat) : Prop where
  p : PGs X ts g
  c : CGs X.K g gd is
@[simp] def gsNil : List D → En → Option En := fun ds en => match ds with
  | [] => some en
  | _ => none
@[simp] def gsCons (g : D → En → Option En) (gs : List D → En → Option En) : List D → En → Option En := fun ds en => match ds with
  | d :: r => (g d en).bind (gs r)
  | _ => none
theorem dgs_nil : DGs X [] gNil gsNil [] := ⟨pgs_nil, fun B0 H0 B H σ en vs ds en' hE r e Q k => by
  unfold gsNil at e
  split at e
  · cases e
    cases r
    exact ⟨rfl, k _ B H (Ext.refl hE.bh) hE rfl fun _ _ => rfl⟩
  · cases e⟩
theorem dgs_cons {ts : List Expr} {g : TG} {gs : TGs} {gd : D → En → Option En} {gds : List D → En → Option En} {is js : List Nat} (h : DG X tg g gd is) (h' : DGs X ts gs gds js)
    (hs : (assignEach (tg :: ts) X.env).map (·.2) = assign tg X.env :: (assignEach ts X.env).map (·.2) := by rfl) : DGs X (tg :: ts) (gCons g gs) (gsCons gd gds) (is ++ js) := ⟨pgs_cons h.p h'.p hs, fun B0 H0 B H σ en vs ds en' hE r e Q k => by
  unfold gsCons at e
  split at e
  · obtain ⟨en1, e1, e⟩ := obind e
    cases r with
    | cons r rr =>
      refine ⟨_, _, rfl, h.c B0 H0 B H σ en _ _ en1 hE r e1 _ fun σ1 B1 H1 x1 hE1 l1 k1 => ?_⟩
      refine h'.c B0 H0 B1 H1 σ1 en1 _ _ en' hE1 (rr.up x1.bb) e _ fun σ2 B2 H2 x2 hE2 l2 k2 => ?_
      exact k σ2 B2 H2 (x1.trans x2) hE2 (l2.trans l1) fun j hj => (k2 j fun z => hj (List.mem_append_right _ z)).trans (k1 j fun z => hj (List.mem_append_left _ z))
  · cases e⟩
@[simp] def gTupD (gs : List D → En → Option En) (n : Nat) : D → En → Option En := fun d en => match d with
  | .tup ds => if ds.length = n then gs ds en else none
  | _ => none
theorem dg_tup {ts : List Expr} {k : Nat} {g : TGs} {gds : List D → En → Option En} {is : List Nat} {n : Nat} (hK : X.K = K) (hc : X.calm = true) (h : DGs X ts g gds is)
    (hn : (assignEach ts X.env).length = n := by rfl) (hst : (assignEach ts X.env).findIdx? (·.1) = none := by rfl) : DG X (.Tuple ts k pos) (gTup K n g) (gTupD gds n) is := hK ▸ ⟨pg_tup hc h.p hn hst, fun B0 H0 B H σ en v d en' hE r e Q kq => by
  unfold gTupD at e
  split at e
  · split at e
    · rename_i hl
      cases r with
      | tup s_ q => have s := SqT.of (K := X.K) s_; exact ⟨_, _, rfl, ex_t hE.bh s, by rw [q.len]; exact hl, h.c B0 H0 B H σ en _ _ en' hE q e Q kq⟩
    · cases e
  · cases e⟩

@[simp] def wipeE (en : En) : List Nat → En
  | [] => en
  | v :: vs => (wipeE en vs).set v .no
theorem EnOk.forget {B0 : Hp} {H0 : HB} {σ : L2.St} {en : En} (h : EnOk K B0 H0 B H σ en) (i : Nat) : EnOk K B0 H0 B H (σ.set i none) (en.set i .no) :=
  h.put i trivial (fun _ f => f.elim) fun _ _ _ _ _ _ _ f _ => f.elim
theorem EnOk.wipe {B0 : Hp} {H0 : HB} {σ : L2.St} {en : En} (h : EnOk K B0 H0 B H σ en) : ∀ vs : List Nat, EnOk K B0 H0 B H (L2.wipe σ vs) (wipeE en vs)
  | [] => h
  | v :: vs => (EnOk.wipe h vs).forget v
theorem wipe_get {σ : L2.St} {j : Nat} : ∀ {vs : List Nat}, (L2.wipe σ vs)[j]? = if j ∈ vs ∧ j < σ.length then some none else σ[j]?
  | [] => by
    show σ[j]? = _
    rw [if_neg (fun z => nomatch z.1)]
  | v :: vs => by
    have ih := wipe_get (σ := σ) (j := j) (vs := vs)
    show ((L2.wipe σ vs).set v none)[j]? = _
    by_cases hv : v = j
    · subst hv
      by_cases hl : v < σ.length
      · rw [List.getElem?_set_self (by rw [wipe_length]; exact hl), if_pos ⟨List.mem_cons_self, hl⟩]
      · rw [List.getElem?_eq_none (by rw [List.length_set, wipe_length]; omega), if_neg (fun z => hl z.2), List.getElem?_eq_none (by omega)]
    · rw [List.getElem?_set_ne hv, ih]
      have : (j ∈ v :: vs ∧ j < σ.length) ↔ (j ∈ vs ∧ j < σ.length) := by
        rw [List.mem_cons]
        exact ⟨fun z => ⟨z.1.resolve_left (Ne.symm hv), z.2⟩, fun z => ⟨.inr z.1, z.2⟩⟩
      simp only [this]
theorem wipe_same {σ σ2 : L2.St} {vs is : List Nat} (hl : σ2.length = (L2.wipe σ vs).length) (hk : ∀ j, j ∉ is → σ2[j]? = (L2.wipe σ vs)[j]?) (hs : ∀ j ∈ is, j ∈ vs) : L2.wipe σ2 vs = L2.wipe σ vs := by
  refine List.ext_getElem? fun j => ?_
  rw [wipe_get, hl, wipe_length]
  by_cases hj : j ∈ vs
  · rw [wipe_get]
    by_cases hb : j < σ.length
    · rw [if_pos ⟨hj, hb⟩, if_pos ⟨hj, hb⟩]
    · rw [if_neg (fun z => hb z.2), if_neg (fun z => hb z.2), List.getElem?_eq_none (by rw [hl, wipe_length]; omega), List.getElem?_eq_none (by omega)]
  · rw [if_neg (fun z => hj z.1)]
    exact hk j fun z => hj (hs j z)
def lcGo (gd : D → En → Option En) (ft : En → Option Bool) (fe : En → Option D) (en : En) : List D → Option (List D)
  | [] => some []
  | d :: r => (gd d en).bind fun en1 => (ft en1).bind fun b => if b = true then (fe en1).bind fun y => (lcGo gd ft fe en r).map fun ys => y :: ys else lcGo gd ft fe en r
@[simp] def lLc (fi : En → Option (List D)) (gd : D → En → Option En) (ft : En → Option Bool) (fe : En → Option D) (vs : List Nat) : En → Option (List D) := fun en => (fi en).bind fun ds => if ds.length ≤ lim then lcGo gd ft fe (wipeE en vs) ds else none
theorem cl_lc {wi : TI} {g : TG} {fi : En → Option (List D)} {gd : D → En → Option En} {is vs : List Nat} (hi : CI K wi fi) (hg : CG K g gd is) (ht : CT K tt ft) (he : CE K te f) (hs : ∀ j ∈ is, j ∈ vs) : CL K (tLc wi g tt te vs) (lLc fi gd ft f vs) := fun B0 H0 B H σ en out hE e Q k => by
  obtain ⟨ds, e1, e⟩ := obind e
  have hlim : ds.length ≤ lim := by
    by_cases h : ds.length ≤ lim
    · exact h
    · rw [if_neg h] at e; cases e
  rw [if_pos hlim] at e
  refine hi B0 H0 B H σ en ds hE e1 _ fun J B1 H1 x1 W => ?_
  intro Dl hD
  have hE1 := hE.up x1
  refine ⟨fun i m H' => m = ds.length - i ∧ i ≤ ds.length ∧ ∃ B' vs' acc rest, Ext B1 H1 B' H' ∧ B' Dl = none ∧ H' Dl = some (.lst vs') ∧ RpAll K B' vs' acc ∧ lcGo gd ft f (wipeE en vs) (ds.drop i) = some rest ∧ acc ++ rest = out ∧ acc.length ≤ i,
    ⟨ds.length, by simp, Nat.zero_le _, B1, [], [], out, Ext.newM x1.bh hD, fresh_back x1.bh hD, upd_same, .nil, e, rfl, Nat.le_refl _⟩, ?_⟩
  rintro i m H' ⟨rfl, hi', B', vs', acc, rest, x2, hb, hp, r, hgo, hout, hacc⟩
  by_cases hlt : i < ds.length
  · have hd : ds[i]? = some ds[i] := List.getElem?_eq_getElem hlt
    rw [List.drop_eq_getElem_cons hlt] at hgo
    obtain ⟨en1, g1, hgo⟩ := obind hgo
    obtain ⟨b, g2, hgo⟩ := obind hgo
    refine .inr ⟨W.go i H' _ (x2.bb.trans x2.bh) hd, fun H'' => ∃ B'' vs'' acc'' rest'', Ext B1 H1 B'' H'' ∧ B'' Dl = none ∧ H'' Dl = some (.lst vs'') ∧ RpAll K B'' vs'' acc'' ∧ lcGo gd ft f (wipeE en vs) (ds.drop (i + 1)) = some rest'' ∧ acc'' ++ rest'' = out ∧ acc''.length ≤ i + 1, fun H'' q => ⟨ds.length - (i + 1), by omega, rfl, hlt, q⟩, fun v H2 y => ?_⟩
    obtain ⟨B2, x3, r2⟩ := W.yl i B' H' _ v H2 x2.bb x2.bh hd y
    have hE2 := (hE1.up (x2.trans x3)).wipe vs
    refine hg B0 H0 B2 H2 _ _ v _ en1 hE2 r2 g1 _ fun σ2 B3 H3 x4 hE3 l3 k3 => ⟨wipe_same l3 k3 hs, ?_⟩
    refine ht B0 H0 B3 H3 σ2 en1 b hE3 g2 _ fun B4 H4 x5 => ?_
    have x6 := (x3.trans x4).trans x5
    have keep : B4 Dl = none := (x6.st Dl (ne_some hp)).trans hb
    cases b with
    | true =>
      rw [if_pos rfl] at hgo ⊢
      obtain ⟨y', g3, hgo⟩ := obind hgo
      obtain ⟨ys, g4, rfl⟩ := omap hgo
      refine he B0 H0 B4 H4 σ2 en1 y' (hE3.up x5) g3 _ fun u B5 H5 x7 r5 => ?_
      have hp5 := x7.hh _ _ (x6.hh _ _ hp)
      have hb5 : B5 Dl = none := (x7.st Dl (ne_some (x6.hh _ _ hp))).trans keep
      have x8 := x2.trans (x6.trans x7)
      have hz : vs'.length ≤ lim := by rw [r.len]; omega
      refine ⟨vs', hp5, lim_lt hz, B5, vs' ++ [u], acc ++ [y'], ys, ⟨x8.bb, Ex.mut x8.bh hb5, fun a o q => ?_, x8.st⟩, hb5, upd_same, (r.up (x6.bb.trans x7.bb)).app (.cons r5 .nil), g4, by rw [List.append_assoc]; exact hout, by rw [List.length_append]; exact Nat.succ_le_succ hacc⟩
      rw [upd_ne (ne_of_none q hD)]
      exact x8.hh a o q
    | false =>
      rw [if_neg Bool.false_ne_true] at hgo ⊢
      exact ⟨B4, vs', acc, rest, x2.trans x6, keep, x6.hh _ _ hp, r.up x6.bb, hgo, hout, Nat.le_succ_of_le hacc⟩
  · have hi2 : i = ds.length := by omega
    subst hi2
    refine .inl ⟨W.stop _ H' (x2.bb.trans x2.bh) (Nat.le_refl _), ?_⟩
    rw [List.drop_length] at hgo
    cases hgo
    rw [List.append_nil] at hout
    subst hout
    exact k Dl vs' B' H' (x1.trans x2) (fresh_back x1.hh hD) hb hp r
@[simp] def fYes : En → Option Bool := fun _ => some true
theorem ct_yes : CT K tYes fYes := fun B0 H0 B H σ en b hE e Q k => by
  cases e
  exact k B H (Ext.refl hE.bh)
structure DTs (X : Cx) (ifs : List Expr) (t : TT) (f : En → Option Bool) : Prop where
  p : PTs X ifs t
  c : CT X.K t f
theorem dts_nil : DTs X [] tYes fYes := ⟨pts_nil, ct_yes⟩
theorem dts_one (h : DT X c tt ft) : DTs X [c] tt ft := ⟨pts_one h.p, h.c⟩
theorem dl_lc {elt iter : Expr} {ifs : List Expr} {scope : Scope} {own : List (Str × Nat)} {wi : TI} {g : TG} {fi : En → Option (List D)} {gd : D → En → Option En} {is : List Nat} (hc : X.calm = true) (hN : X.N.Nodup) (hi : DI X tg iter wi fi) (ok : BlkOk X.N X.env.scope scope own)
    (hg : ∀ (s : Shared) (H : Hp) (C : Addr) (cl : List (Str × Addr)) (fp : List Addr), DG (X.blk s H scope (compEnvC scope cl C X.env) fp) tg g gd is) (ht : ∀ (s : Shared) (H : Hp) (C : Addr) (cl : List (Str × Addr)) (fp : List Addr), DTs (X.blk s H scope (compEnvC scope cl C X.env) fp) ifs tt ft)
    (he : ∀ (s : Shared) (H : Hp) (C : Addr) (cl : List (Str × Addr)) (fp : List Addr), DE (X.blk s H scope (compEnvC scope cl C X.env) fp) elt te f) (hsub : ∀ j ∈ is, j ∈ own.map (·.2) := by decide) (hs : ∀ x, foldedSetIterable iter X.env x = pure x := by intro _; rfl) :
    DL X (.ListComp elt [⟨tg, iter, ifs, 0⟩] scope pos) (tLc wi g tt te (own.map (·.2))) (lLc fi gd ft f (own.map (·.2))) :=
  ⟨pe_lc hc hN hi.p ok (fun s H C cl fp => (hg s H C cl fp).p) (fun s H C cl fp => (ht s H C cl fp).p) (fun s H C cl fp => (he s H C cl fp).p) hs,
    cl_lc (K := X.K) hi.c (hg {} (fun _ => none) 0 [] []).c (ht {} (fun _ => none) 0 [] []).c (he {} (fun _ => none) 0 [] []).c hsub⟩
end
end DD

namespace DD
open PySem PySem.Spec PyProof.Rows L2 Evl

inductive Out where
  | nx (en : En) | rt (d : D) | bk (en : En) | ct (en : En) | rm (t : Tr) (en : En)
def OutOk (K : PySem.W.Frag) (B0 : Hp) (H0 : HB) (B : Hp) (Dn : Ends) : Out → Prop
  | .nx en' => ∀ σ' B' H', Ex B B' → EnOk K B0 H0 B' H' σ' en' → Dn.nx σ' H'
  | .bk en' => ∀ σ' B' H', Ex B B' → EnOk K B0 H0 B' H' σ' en' → Dn.bk σ' H'
  | .ct en' => ∀ σ' B' H', Ex B B' → EnOk K B0 H0 B' H' σ' en' → Dn.ct σ' H'
  | .rt d => ∀ v B' H', Ext B0 H0 B' H' → Rp K B' v d → Dn.rt v H'
  | .rm t en' => ∀ v A σ' B' H', Ex B B' → EnOk K B0 H0 B' H' σ' en' → Ow K B' H' t v A → (∀ q ∈ A, H0 q = none ∧ ∀ (i : Nat) (s : Sl) (o : Option V), en'[i]? = some s → σ'[i]? = some o → ¬ Ft K B' H' s o q) → Dn.rt v H'
def CS (K : PySem.W.Frag) (ts : TS) (g : En → Option Out) : Prop := ∀ B0 H0 B H σ en o, EnOk K B0 H0 B H σ en → g en = some o → ∀ Dn : Ends, OutOk K B0 H0 B Dn o → ts Dn σ H
structure DS (X : Cx) (st : Stmt) (ts : TS) (g : En → Option Out) : Prop where
  p : PS X st ts
  c : CS X.K ts g
structure DSs (X : Cx) (st : List Stmt) (ts : TS) (g : En → Option Out) : Prop where
  p : PSs X st ts
  c : CS X.K ts g

section
variable {K : PySem.W.Frag} {X : Cx} {pos : Pos} {tg a b c e : Expr} {ta tb tc te : TE} {fa fb fc f : En → Option D} {B B1 H B0 : Hp} {H0 : HB} {tt tu : TT} {ft fu : En → Option Bool} {es rest : List Expr} {tr : TA} {fr : En → Option (List D)}
  {st : Stmt} {sts : List Stmt} {t u : TS} {g h : En → Option Out} {Dn Dn' : Ends} {o : Out}
theorem OutOk.up (h : OutOk K B0 H0 B Dn o) (x : Ex B B1) : OutOk K B0 H0 B1 Dn o := by
  cases o with
  | nx en => exact fun σ' B' H' e => h σ' B' H' (x.trans e)
  | bk en => exact fun σ' B' H' e => h σ' B' H' (x.trans e)
  | ct en => exact fun σ' B' H' e => h σ' B' H' (x.trans e)
  | rt d => exact h
  | rm t en => exact fun v A σ' B' H' e => h v A σ' B' H' (x.trans e)
@[simp] def sNil : En → Option Out := fun en => some (.nx en)
def sSeq (g h : En → Option Out) : En → Option Out := fun en => (g en).bind fun
  | .nx en' => h en'
  | o => some o
theorem cs_seq (h1 : CS K t g) (h2 : CS K u h) : CS K (tSeq t u) (sSeq g h) := fun B0 H0 B H σ en o hE e Dn k => by
  obtain ⟨o1, e1, e⟩ := obind e
  refine h1 B0 H0 B H σ en o1 hE e1 _ ?_
  cases o1 with
  | nx en1 => exact fun σ1 B1 H1 x1 hE1 => h2 B0 H0 B1 H1 σ1 en1 o hE1 e Dn (k.up x1)
  | bk en1 => cases e; exact k
  | ct en1 => cases e; exact k
  | rt d => cases e; exact k
  | rm t en1 => cases e; exact k
theorem dss_nil : DSs X [] tNext sNil := ⟨pss_nil, fun B0 H0 B H σ en o hE e Dn k => by
  cases e
  exact k σ B H (Ex.refl _) hE⟩
theorem dss_cons (h1 : DS X st t g) (h2 : DSs X sts u h) : DSs X (st :: sts) (tSeq t u) (sSeq g h) := ⟨pss_cons h1.p h2.p, cs_seq h1.c h2.c⟩
theorem dss_one (h1 : DS X st t g) : DSs X [st] t g := ⟨pss_one h1.p, h1.c⟩
@[simp] def sSet (i : Nat) (f : En → Option D) : En → Option Out := fun en => (f en).map fun d => .nx (en.set i (.dat d))
theorem ds_set {i : Nat} (he : DE X e te f) (hp : PS X st (tAsg te (gName i))) : DS X st (tAsg te (gName i)) (sSet i f) := ⟨hp, fun B0 H0 B H σ en o hE q Dn k => by
  obtain ⟨d, e1, rfl⟩ := omap q
  exact he.c B0 H0 B H σ en d hE e1 _ fun v B1 H1 x r => k _ B1 H1 x.bb ((hE.up x).set i r)⟩
@[simp] def sOwn (i : Nat) (f : En → Option (List D)) : En → Option Out := fun en => (f en).map fun ds => .nx (en.set i (.own ds))
theorem ds_own {i : Nat} {fl : En → Option (List D)} (he : DL X e te fl) (hp : PS X st (tAsg te (gName i))) : DS X st (tAsg te (gName i)) (sOwn i fl) := ⟨hp, fun B0 H0 B H σ en o hE q Dn k => by
  obtain ⟨d, e1, rfl⟩ := omap q
  refine he.c B0 H0 B H σ en d hE e1 _ fun p vs B1 H1 x h0 hb hp r => ?_
  exact k _ B1 H1 x.bb ((hE.up x).setM i ⟨p, vs, rfl, hb, hp, r⟩ (fresh_back hE.ext.hh h0) fun j sj oj => hE.nref h0 x j sj oj)⟩
@[simp] def sOwd (i : Nat) : En → Option Out := fun en => some (.nx (en.set i (.owd [] [])))
@[simp] def sDrop (f : En → Option D) : En → Option Out := fun en => (f en).map fun _ => .nx en
@[simp] def sRet (f : En → Option D) : En → Option Out := fun en => (f en).map .rt
theorem ds_ret (he : DE X e te f) : DS X (.Return (some e) pos) (tRet te) (sRet f) := ⟨ps_ret he.p, fun B0 H0 B H σ en o hE q Dn k => by
  obtain ⟨d, e1, rfl⟩ := omap q
  exact he.c B0 H0 B H σ en d hE e1 _ fun v B1 H1 x r => k v B1 H1 (hE.ext.trans x) r⟩
@[simp] def sRetN : En → Option Out := fun _ => some (.rt .non)
@[simp] def sBk : En → Option Out := fun en => some (.bk en)
@[simp] def sCt : En → Option Out := fun en => some (.ct en)
@[simp] def sNo : En → Option Out := fun _ => none
def sIf (ft : En → Option Bool) (g h : En → Option Out) : En → Option Out := fun en => (ft en).bind fun b => if b = true then g en else h en
theorem ds_if {sa sb : List Stmt} (hc : DT X c tt ft) (ha : DSs X sa t g) (hb : DSs X sb u h) : DS X (.If c sa sb pos) (tIfS tt t u) (sIf ft g h) := ⟨ps_if hc.p ha.p hb.p, fun B0 H0 B H σ en o hE e Dn k => by
  obtain ⟨b, e1, e⟩ := obind e
  refine hc.c B0 H0 B H σ en b hE e1 _ fun B1 H1 x => ?_
  cases b with
  | true => rw [if_pos rfl] at e ⊢; exact ha.c B0 H0 B1 H1 σ en o (hE.up x) e Dn (k.up x.bb)
  | false => rw [if_neg Bool.false_ne_true] at e ⊢; exact hb.c B0 H0 B1 H1 σ en o (hE.up x) e Dn (k.up x.bb)⟩
@[simp] def frz (i : Nat) (en : En) : En := match en[i]? with
  | some s => match s.thaw with
    | .dat d => en.set i (.dat d)
    | _ => en
  | none => en
open Classical in
theorem EnOk.frz {σ : L2.St} {en : En} (hE : EnOk K B0 H0 B H σ en) (i : Nat) : ∃ B', Ex B B' ∧ EnOk K B0 H0 B' H σ (frz i en) := by
  unfold DD.frz
  split
  · rename_i s hs
    split
    · rename_i d hd
      obtain ⟨o, ho⟩ := hE.lt hs
      let B' : Hp := fun q => if Ft K B H s o q then H q else B q
      have hB : Ex B B' := fun q u e => by
        show (if Ft K B H s o q then H q else B q) = some u
        by_cases hq : Ft K B H s o q
        · rw [if_pos hq]; exact hE.bh q u e
        · rw [if_neg hq]; exact e
      have hH : Ex B' H := fun q u e => by
        have e : (if Ft K B H s o q then H q else B q) = some u := e
        by_cases hq : Ft K B H s o q
        · rw [if_pos hq] at e; exact e
        · rw [if_neg hq] at e; exact hE.bh q u e
      have hO : ∀ q, Ft K B H s o q → B' q = H q := fun q hq => if_pos hq
      have hN : ∀ q, ¬ Ft K B H s o q → B' q = B q := fun q hq => if_neg hq
      have sl := hE.slot i s o hs ho
      have other : ∀ (j : Nat) (sj : Sl) (oj : Option V), j ≠ i → en[j]? = some sj → σ[j]? = some oj → SlOk K B' H sj oj ∧ ∀ q, Ft K B' H sj oj q ↔ Ft K B H sj oj q := fun j sj oj ne a b => by
        have k := hE.slot j sj oj a b
        refine k.mono hB fun q f => ⟨rfl, ?_⟩
        rw [hN q fun g => ne (hE.apart j i sj s oj o q a hs b ho f g)]
        exact (k.free f).1
      refine ⟨B', hB, ⟨⟨hE.ext.bb.trans hB, hH, hE.ext.hh, fun q hq => ?_⟩, by rw [List.length_set, hE.len], fun j sj oj a b => ?_, fun j k sj sk oj ok q a b c e f g => ?_, fun j sj oj q a b f => ?_, fun j t oj a b => ?_, fun j t oj a b => ?_⟩⟩
      · rw [hN q fun f => hq.1 (hE.frs i s o q hs ho f)]; exact hE.ext.st q hq
      · rcases get_set a with ⟨rfl, rfl, hl⟩ | ⟨ne, a'⟩
        · rw [ho] at b
          cases b
          rw [← hd]
          exact sl.thaw hB fun d' _ q f u hu => by rw [hO q f]; exact hu
        · exact (other j sj oj ne a' b).1
      · rcases get_set a with ⟨rfl, rfl, _⟩ | ⟨n1, a'⟩
        · exact f.elim
        · rcases get_set b with ⟨rfl, rfl, _⟩ | ⟨n2, b'⟩
          · exact g.elim
          · exact hE.apart j k sj sk oj ok q a' b' c e (((other j sj oj n1 a' c).2 q).mp f) (((other k sk ok n2 b' e).2 q).mp g)
      · rcases get_set a with ⟨rfl, rfl, _⟩ | ⟨n1, a'⟩
        · exact f.elim
        · exact hE.frs j sj oj q a' b (((other j sj oj n1 a' b).2 q).mp f)
      · rcases get_set a with ⟨_, z, _⟩ | ⟨n1, a'⟩
        · cases z
        · exact hE.root j t oj a' b
      · rcases get_set a with ⟨_, z, _⟩ | ⟨n1, a'⟩
        · cases z
        · exact hE.ro j t oj a' b
    · exact ⟨B, Ex.refl _, hE⟩
  · exact ⟨B, Ex.refl _, hE⟩
theorem cs_frz (i : Nat) (h1 : CS K t g) : CS K t (fun en => g (frz i en)) := fun B0 H0 B H σ en o hE e Dn k => by
  obtain ⟨B', hx, hE'⟩ := hE.frz i
  exact h1 B0 H0 B' H σ _ o hE' e Dn (k.up hx)
theorem DS.frz (i : Nat) (h1 : DS X st t g) : DS X st t (fun en => g (DD.frz i en)) := ⟨h1.p, cs_frz i h1.c⟩
theorem DSs.frz (i : Nat) (h1 : DSs X sts t g) : DSs X sts t (fun en => g (DD.frz i en)) := ⟨h1.p, cs_frz i h1.c⟩
@[simp] def sApp (i : Nat) (f : En → Option D) : En → Option Out := fun en => (f en).bind fun d => match en[i]? with
  | some (.own ds) => if ds.length ≤ lim then some (.nx (en.set i (.own (ds ++ [d])))) else none
  | _ => none
theorem ds_app {i : Nat} {x : Expr} {apos cpos pos' : Pos} (hx : PE X x (tVar i)) (he : DE X e te f)
    (hbase : attributeBase x "append" X.env (eval x X.env) = eval x X.env := by rfl)
    (hfew : ((backTo cpos (starEach (e :: []) X.env)).all (fun x => !x.1) && (backToKw cpos (keywordEach [] X.env)).all (fun x => x.1.isSome)
      && decide ((e :: []).length + ([] : List Keyword).length + (if ([] : List Keyword).isEmpty then 0 else 1) < 30)) = true := by rfl)
    (hline : (apos.endLine == cpos.line) = true := by rfl) (hs : starEach (e :: []) X.env = (false, eval e X.env) :: starEach [] X.env := by rfl) (hplain : (backTo cpos (starEach [] X.env)).any (·.1) = false := by rfl)
    (hsw : swapsWith (.Call (.Attribute x "append" apos) [e] [] cpos) none pos'.line X.env = pure false := by rfl) :
    DS X (.Expr (.Call (.Attribute x "append" apos) [e] [] cpos) pos') (tDrop (tBM X.K "list" rAppend (tVar i) (tCons te tNil))) (sApp i f) :=
  ⟨ps_expr (pe_bm PySem.F.plainAttrs_list PySem.F.slot_list_append PySem.F.type_list_append mt_append hx (pa_cons he.p pa_nil hs) hbase hfew hline hs hplain) hsw, fun B0 H0 B H σ en o hE q Dn k => by
    obtain ⟨d, e1, q⟩ := obind q
    split at q
    · rename_i ds hi
      obtain ⟨hl, rfl⟩ := oite q
      obtain ⟨p, vs, hp, hb, hh, r, f0⟩ := hE.own hi
      refine ⟨.ref p, hp, .inl ⟨rfl, _, SqL.of hh⟩, ?_⟩
      refine he.c B0 H0 B H σ en d hE e1 _ fun v B1 H1 x1 r1 => ?_
      have hh1 := x1.hh _ _ hh
      have hb1 : B1 p = none := (x1.st p (ne_some hh)).trans hb
      refine ⟨p, vs, v, rfl, rfl, hh1, lim_lt (by rw [r.len]; exact hl), ?_⟩
      refine k _ B1 _ x1.bb ((hE.up x1).chg hi rfl rfl hp hb1 ⟨p, _, rfl, hb1, upd_same, (r.up x1.bb).app (.cons r1 .nil)⟩)
    · cases q⟩
@[simp] def sSetI (i : Nat) (fj f : En → Option D) : En → Option Out := fun en => (f en).bind fun d => (fj en).bind fun j => match j, en[i]? with
  | .int z, some (.own ds) => (ixN ds.length z).map fun m => .nx (en.set i (.own (ds.set m d)))
  | _, _ => none
theorem RpAll.put {k : Key} {v : V} {d : D} (r : Rp K B v d) : ∀ {kvs : List (Key × V)} {ds : List D}, (kvs.map (·.1)).Nodup → RpAll K B (kvs.map (·.2)) ds → (putK kvs k v).map (·.1) = (putKs (kvs.map (·.1)) ds k d).1 ∧ RpAll K B ((putK kvs k v).map (·.2)) (putKs (kvs.map (·.1)) ds k d).2
  | [], _, _, h => by
    cases h
    exact ⟨rfl, .cons r .nil⟩
  | p :: m, _, nd, h => by
    rw [List.map_cons, List.nodup_cons] at nd
    cases h with
    | cons h1 h2 =>
      rename_i d1 ds1
      by_cases e : p.1 = k
      · have q1 : putK (p :: m) k v = (p.1, v) :: m := by
          unfold putK
          rw [if_pos (by rw [List.any_cons, decide_eq_true e, Bool.true_or])]
          rw [List.map_cons, if_pos e]
          congr 1
          have : ∀ kv ∈ m, (if kv.1 = k then (kv.1, v) else kv) = kv := fun kv hkv => by
            rw [if_neg]
            intro z
            exact nd.1 (by rw [e, ← z]; exact List.mem_map_of_mem hkv)
          rw [List.map_congr_left this]
          exact List.map_id _
        have q2 : putKs ((p :: m).map (·.1)) (d1 :: ds1) k d = (p.1 :: m.map (·.1), d :: ds1) := by
          show (if p.1 = k then _ else _) = _
          rw [if_pos e]
        rw [q1, q2]
        exact ⟨rfl, .cons r h2⟩
      · obtain ⟨i1, i2⟩ := RpAll.put (k := k) r nd.2 h2
        have q1 : putK (p :: m) k v = p :: putK m k v := by
          unfold putK
          rw [List.any_cons, decide_eq_false e, Bool.false_or, List.map_cons, if_neg e]
          split <;> rfl
        have q2 : putKs ((p :: m).map (·.1)) (d1 :: ds1) k d = (p.1 :: (putKs (m.map (·.1)) ds1 k d).1, d1 :: (putKs (m.map (·.1)) ds1 k d).2) := by
          show (if p.1 = k then _ else _) = _
          rw [if_neg e]
        rw [q1, q2]
        exact ⟨by rw [List.map_cons, i1], .cons h1 i2⟩
@[simp] def sPut (i : Nat) (fk f : En → Option D) : En → Option Out := fun en => (f en).bind fun d => (fk en).bind fun k => (keyOf k).bind fun k => match en[i]? with
  | some (.owd ks ds) => if ks.Nodup ∧ ks.length ≤ lim then some (.nx (en.set i (.owd (putKs ks ds k d).1 (putKs ks ds k d).2))) else none
  | _ => none
def forGo (gd : D → En → Option En) (g : En → Option Out) : List D → En → Option Out
  | [], en => some (.nx en)
  | d :: r, en => (gd d en).bind fun en1 => (g en1).bind fun
    | .nx en2 => forGo gd g r en2
    | .ct en2 => forGo gd g r en2
    | .bk en2 => some (.nx en2)
    | .rt v => some (.rt v)
    | .rm t en2 => some (.rm t en2)
def sFor (fi : En → Option (List D)) (gd : D → En → Option En) (g : En → Option Out) : En → Option Out := fun en => (fi en).bind fun ds => forGo gd g ds en
theorem cs_for {wi : TI} {tgt : TG} {fi : En → Option (List D)} {gd : D → En → Option En} {is : List Nat} (hi : CI K wi fi) (hg : CG K tgt gd is) (hb : CS K t g) : CS K (tFor wi tgt t) (sFor fi gd g) := fun B0 H0 B H σ en o hE e Dn k => by
  obtain ⟨ds, e1, e⟩ := obind e
  refine hi B0 H0 B H σ en ds hE e1 _ fun J B1 H1 x1 W => ?_
  refine ⟨fun i m σ' H' => m = ds.length - i ∧ i ≤ ds.length ∧ ∃ B' en', Ex B1 B' ∧ EnOk K B0 H0 B' H' σ' en' ∧ forGo gd g (ds.drop i) en' = some o, ⟨ds.length, by simp, Nat.zero_le _, B1, en, Ex.refl _, hE.up x1, e⟩, ?_⟩
  rintro i m σ' H' ⟨rfl, hi', B', en', x2, hE', hgo⟩
  by_cases hlt : i < ds.length
  · have hd : ds[i]? = some ds[i] := List.getElem?_eq_getElem hlt
    rw [List.drop_eq_getElem_cons hlt] at hgo
    obtain ⟨en1, g1, hgo⟩ := obind hgo
    obtain ⟨o1, g2, hgo⟩ := obind hgo
    refine .inr ⟨W.go i H' _ (x2.trans hE'.bh) hd, fun σ'' H'' => ∃ B'' en'', Ex B1 B'' ∧ EnOk K B0 H0 B'' H'' σ'' en'' ∧ forGo gd g (ds.drop (i + 1)) en'' = some o, fun σ'' H'' q => ⟨ds.length - (i + 1), by omega, rfl, hlt, q⟩, fun v H2 y => ?_⟩
    obtain ⟨B2, x3, r2⟩ := W.yl i B' H' _ v H2 x2 hE'.bh hd y
    refine hg B0 H0 B2 H2 σ' en' v _ en1 (hE'.up x3) r2 g1 _ fun σ2 B3 H3 x4 hE3 l3 k3 => ?_
    refine hb B0 H0 B3 H3 σ2 en1 o1 hE3 g2 _ ?_
    have x5 := x2.trans (x3.bb.trans x4.bb)
    cases o1 with
    | nx en2 => exact fun σ4 B4 H4 x6 hE4 => ⟨B4, en2, x5.trans x6, hE4, hgo⟩
    | ct en2 => exact fun σ4 B4 H4 x6 hE4 => ⟨B4, en2, x5.trans x6, hE4, hgo⟩
    | bk en2 =>
      cases hgo
      exact fun σ4 B4 H4 x6 hE4 => k σ4 B4 H4 (x1.bb.trans (x5.trans x6)) hE4
    | rt d =>
      cases hgo
      exact k
    | rm t2 en2 =>
      cases hgo
      exact fun v A σ4 B4 H4 x6 => k v A σ4 B4 H4 (x1.bb.trans (x5.trans x6))
  · have hi2 : i = ds.length := by omega
    subst hi2
    rw [List.drop_length] at hgo
    cases hgo
    exact .inl ⟨W.stop _ H' (x2.trans hE'.bh) (Nat.le_refl _), k σ' B' H' (x1.bb.trans x2) hE'⟩
theorem ds_for {iter : Expr} {body : List Stmt} {wi : TI} {tgt : TG} {fi : En → Option (List D)} {gd : D → En → Option En} {is : List Nat} (hp : PassesOwn (model X.prog X.w) X.A X.env X.xe) (hc : X.calm = true) (hi : DI X tg iter wi fi) (hg : DG X tg tgt gd is) (hb : DSs X body t g)
    (hs : ∀ x, foldedSetIterable iter X.env x = pure x := by intro _; rfl) : DS X (.For tg iter body [] pos) (tFor wi tgt t) (sFor fi gd g) := ⟨ps_for hp hc hi.p hg.p hb.p hs, cs_for hi.c hg.c hb.c⟩

@[simp] def entry (n : Nat) (ds : List D) : En := ds.map Sl.dat ++ List.replicate (n - ds.length) .no
def runD (g : En → Option Out) (n k : Nat) : List D → Option D := fun ds => if ds.length = k then (g (entry n ds)).bind fun
  | .rt d => some d
  | .nx _ => some .non
  | _ => none else none
def spD (K : PySem.W.Frag) (F : List D → Option D) : Sp := fun vs H Q _ => ∃ B ds d, Ex B H ∧ RpAll K B vs ds ∧ F ds = some d ∧ Kp K B H d Q
theorem entry_ok {vs : List V} {ds : List D} {N : List Str} (hB : Ex B H) (r : RpAll K B vs ds) (hl : vs.length ≤ N.length) : EnOk K B (HB.of H) B H (L2.start N vs) (entry N.length ds) := by
  have hlen := r.len
  have cs : ∀ (i : Nat) (s : Sl), (entry N.length ds)[i]? = some s → s = .no ∨ ∃ d, s = .dat d := fun i s e => by
    unfold entry at e
    by_cases h : i < (ds.map Sl.dat).length
    · rw [List.getElem?_append_left h, List.getElem?_map] at e
      obtain ⟨d, _, rfl⟩ := omap e
      exact .inr ⟨d, rfl⟩
    · rw [List.getElem?_append_right (by omega), List.getElem?_replicate] at e
      split at e
      · cases e; exact .inl rfl
      · cases e
  have nomut : ∀ (i : Nat) (s : Sl) (o : Option V) (q : Addr), (entry N.length ds)[i]? = some s → Ft K B H s o q → False := fun i s o q e f => by
    rcases cs i s e with rfl | ⟨d, rfl⟩
    · exact f
    · exact f
  refine ⟨Ext.refl hB, ?_, fun i s o a b => ?_, fun i j si sj oi oj q a b _ _ f _ => (nomut i si oi q a f).elim, fun i s o q a _ f => (nomut i s o q a f).elim, fun i t o a _ => ?_, fun i t o a _ => ?_⟩
  · unfold L2.start entry
    rw [List.length_append, List.length_append, List.length_map, List.length_map, List.length_replicate, List.length_replicate, hlen]
  · unfold entry at a
    unfold L2.start at b
    by_cases h : i < ds.length
    · rw [List.getElem?_append_left (by rw [List.length_map]; exact h), List.getElem?_map] at a
      rw [List.getElem?_append_left (by rw [List.length_map]; omega), List.getElem?_map] at b
      obtain ⟨d, e1, rfl⟩ := omap a
      obtain ⟨v, e2, rfl⟩ := omap b
      obtain ⟨v', e3, r'⟩ := r.get i e1
      rw [e2] at e3; cases e3
      exact ⟨_, rfl, r'⟩
    · rw [List.getElem?_append_right (by rw [List.length_map]; omega), List.getElem?_replicate] at a
      split at a
      · cases a; trivial
      · cases a
  · rcases cs i _ a with z | ⟨d, z⟩ <;> cases z
  · rcases cs i _ a with z | ⟨d, z⟩ <;> cases z
theorem fn_ok {P : Program} {w : World} {mg : Str → Option Value} {base : Heap} {x qual : Str} {st : Stmt} {f : Addr} {fd : FuncData} {N ps : List Str} {k : Nat} {g : En → Option Out} (F : Fun K x qual st f fd) (S : FnScope N ps (defScope st)) (hps : ps.length ≤ N.length)
    (hbody : ∀ (cdv : Value) (A : Around) (outer : List Env) (s : Shared) (H : Hp) (E : XK), Room k (A.deeper (envOfC qual (defScope st) s.heap.objs.size f cdv)) →
      ∃ t, DSs (cxOf CX0 P w K mg base N qual (defScope st) f cdv A outer s H E).nox (defBody st) t g) : FnOk P w K mg base CX0 (k + 1) f fd ps (spD K (runD g N.length ps.length)) := by
  refine F.ok S (fun vs H Q E h => ?_) (fun cdv A outer s H vs Q E hr h => ?_)
  · obtain ⟨B, ds, d, _, r, e, _⟩ := h
    unfold runD at e
    by_cases hl : ds.length = ps.length
    · rw [r.len]; exact hl
    · rw [if_neg hl] at e; cases e
  · obtain ⟨B, ds, d, hB, r, e, kq⟩ := h
    obtain ⟨t, hd⟩ := hbody cdv A outer s H E hr
    refine ⟨t, hd.p, ?_⟩
    unfold runD at e
    by_cases hl : ds.length = ps.length
    · rw [if_pos hl] at e
      obtain ⟨o, e1, e⟩ := obind e
      refine hd.c B (HB.of H) B H (L2.start N vs) (entry N.length ds) o (entry_ok hB r (by rw [r.len, hl]; exact hps)) e1 _ ?_
      cases o with
      | nx en => cases e; exact fun σ' B' H' x hE => kq .non B' H' hE.ext .non
      | rt d => cases e; exact kq
      | bk en => cases e
      | ct en => cases e
      | rm t en => cases e
    · rw [if_neg hl] at e; cases e
@[simp] def dCall (F : List D → Option D) (fr : En → Option (List D)) : En → Option D := fun en => (fr en).bind F
theorem de_call {F : List D → Option D} {k : Nat} {f : Addr} {fd : FuncData} {ps : List Str} {x : Str} {p : Pos} (G : FnOk X.prog X.w X.K X.mg X.base CX0 k f fd ps (spD X.K F)) (hr : Room k X.A) (hg : Gl X x) (hm : X.mg x = some (.ref f)) (hk : PySem.W.keepIn X.K (.ref f) = true) (hb : Binds X.K fd ps [])
    (ha : DA X (e :: es) tr fr) (hdb : (x == ("__debug__" : Str)) = false := by decide) (he : starEach (e :: es) X.env = (false, eval e X.env) :: starEach es X.env := by rfl) (hpl : (backTo pos (starEach es X.env)).any (·.1) = false := by rfl) :
    DE X (.Call (.Name x p) (e :: es) [] pos) (tCall (spD X.K F) [] E0 tr) (dCall F fr) := ⟨pe_call G hr hg hm hk hb .nil pass0 ha.p hdb he hpl, fun B0 H0 B H σ en d hE e Q k => by
  obtain ⟨ds, e1, e⟩ := obind e
  refine ha.c B0 H0 B H σ en ds hE e1 _ fun vs B1 H1 x r => ?_
  refine ⟨B1, ds, d, x.bh, by rw [List.append_nil]; exact r, e, fun v B2 H2 y r2 => k v B2 H2 (x.trans y) r2⟩⟩
end
end DD

namespace DD
open PySem PySem.Spec PyProof.Rows L2 Evl

section
variable {K : PySem.W.Frag} {X : Cx} {pos : Pos} {tg a b c e : Expr} {ta tb tc te : TE} {fa fb fc f : En → Option D} {B B1 H B0 : Hp} {H0 : HB} {tt tu : TT} {ft fu : En → Option Bool} {es rest : List Expr} {tr : TA} {fr : En → Option (List D)}

theorem dt_cmpR {op : CmpOp} {r : R2} {g : D → D → Option D} (ho : OpR X (compareOp op) r) (hr : OpD X.K r g) (ha : DE X a ta fa) (hb : DE X b tb fb) (hm : behindInMarks op b = false) : DT X (.Compare a [op] [b] pos) (tTest (tOp r ta tb)) (tBl (d2 g fa fb)) := ⟨pt_cmpR ho ha.p hb.p hm, ct_test (ce_op hr ha.c hb.c)⟩
theorem dt_lt (ha : DE X a ta fa) (hb : DE X b tb fb) : DT X (.Compare a [.Lt] [b] pos) (tTest (tOp rL1 ta tb)) (tBl (d2 gLt fa fb)) := dt_cmpR op_lt od_lt ha hb (nomark _)
theorem dt_le (ha : DE X a ta fa) (hb : DE X b tb fb) : DT X (.Compare a [.LtE] [b] pos) (tTest (tOp rL2 ta tb)) (tBl (d2 gLe fa fb)) := dt_cmpR op_le od_le ha hb (nomark _)
theorem dt_gt (ha : DE X a ta fa) (hb : DE X b tb fb) : DT X (.Compare a [.Gt] [b] pos) (tTest (tOp rG1 ta tb)) (tBl (d2 gGt fa fb)) := dt_cmpR op_gt od_gt ha hb (nomark _)
theorem dt_ge (ha : DE X a ta fa) (hb : DE X b tb fb) : DT X (.Compare a [.GtE] [b] pos) (tTest (tOp rG2 ta tb)) (tBl (d2 gGe fa fb)) := dt_cmpR op_ge od_ge ha hb (nomark _)
theorem dt_eq {n : Nat} (hr : Room n X.A) (ha : DE X a ta fa) (hb : DE X b tb fb) : DT X (.Compare a [.Eq] [b] pos) (tTest (tOp (rEqD X.K) ta tb)) (tBl (d2 gEq fa fb)) := dt_cmpR (op_eqD hr.units) od_eq ha hb (nomark _)
theorem dt_ne {n : Nat} (hr : Room n X.A) (ha : DE X a ta fa) (hb : DE X b tb fb) : DT X (.Compare a [.NotEq] [b] pos) (tTest (tOp (rNeD X.K) ta tb)) (tBl (d2 gNe fa fb)) := dt_cmpR (op_neD hr.units) od_ne ha hb (nomark _)
theorem dt_isN (ha : DE X a ta fa) (hb : DE X b tb fb) : DT X (.Compare a [.Is] [b] pos) (tTest (tOp rIsN' ta tb)) (tBl (d2 gIsN fa fb)) := dt_cmpR op_isN od_isN ha hb (nomark _)
theorem dt_notN (ha : DE X a ta fa) (hb : DE X b tb fb) : DT X (.Compare a [.IsNot] [b] pos) (tTest (tOp rNotN' ta tb)) (tBl (d2 gNotN fa fb)) := dt_cmpR op_notN od_notN ha hb (nomark _)
theorem dt_notInL {n : Nat} (hr : Room n X.A) (ha : DE X a ta fa) (hb : DE X b tb fb) (hm : behindInMarks .NotIn b = false := by rfl) : DT X (.Compare a [.NotIn] [b] pos) (tTest (tOp (rNotInD X.K) ta tb)) (tBl (d2 gNotInL fa fb)) := dt_cmpR (op_notInD (by have := hr.un; omega)) od_notInL ha hb hm
@[simp] def dIsL (fa : En → Option D) : En → Option D := fun en => (fa en).bind fun
  | .lst _ => some (.bl true)
  | _ => none
def leS (x y : Str) : Bool := !decide (y.cps.toList < x.cps.toList)
def srt (ys : List Str) : List Str := ys.mergeSort leS
def keyStrs : List Key → Option (List Str)
  | [] => some []
  | .inr x :: r => (keyStrs r).map (x :: ·)
  | _ :: _ => none
@[simp] def lSortD (fa : En → Option D) : En → Option (List D) := fun en => (fa en).bind fun
  | .dic ks _ => (keyStrs ks).bind fun xs => if xs.length < 64 then some ((srt xs).map D.str) else none
  | _ => none
end
end DD

namespace DD
open PySem PySem.Spec PyProof.Rows L2 Evl
section
variable {X : Cx} {pos : Pos} {e : Expr} {te : TE} {f : En → Option D} {fl : En → Option (List D)}
theorem ds_setH {i : Nat} {x : Str} {pos' : Pos} (hN : X.N.Nodup) (hi : X.N[i]? = some x) (hx : Loc X.env.scope x) (he : DE X e te f) (hs : swapsWith e (some (.Name x pos')) pos.line X.env = pure false := by rfl) (hf : X.fn x = true ∨ X.env.scope.names.lookup x = some .local := by first | exact .inl rfl | exact .inr rfl | assumption) :
    DS X (.Assign [.Name x pos'] e pos) (tAsg te (gName i)) (sSet i f) := ds_set he (ps_set hN hi hx he.p hs hf)
theorem ds_ownH {i : Nat} {x : Str} {pos' : Pos} (hN : X.N.Nodup) (hi : X.N[i]? = some x) (hx : Loc X.env.scope x) (he : DL X e te fl) (hs : swapsWith e (some (.Name x pos')) pos.line X.env = pure false := by rfl) (hf : X.fn x = true ∨ X.env.scope.names.lookup x = some .local := by first | exact .inl rfl | exact .inr rfl | assumption) :
    DS X (.Assign [.Name x pos'] e pos) (tAsg te (gName i)) (sOwn i fl) := ds_own he (ps_set hN hi hx he.p hs hf)
end
end DD

namespace DD
open PySem PySem.Spec PyProof.Rows L2 Evl
section
variable {K : PySem.W.Frag} {X : Cx} {pos : Pos} {tg a b c e : Expr} {ta tb tc te : TE} {fa fb fc f : En → Option D} {tt tu : TT} {ft fu : En → Option Bool} {es rest : List Expr} {tr : TA} {fr : En → Option (List D)} {lo hi : Option Expr} {tl th : TO} {fl fh : En → Option (Option Int)}
theorem de_atK (hK : X.K = K) (ha : DE X a ta fa) (hb : DE X b tb fb) (hs : PlainIx b) : DE X (.Subscript a b pos) (tOp (rIx K) ta tb) (d2 gIx fa fb) := by subst hK; exact de_at ha hb hs
theorem de_inLK (hK : X.K = K) {n : Nat} (hr : Room n X.A) (ha : DE X a ta fa) (hb : DE X b tb fb) (hm : behindInMarks .In b = false := by rfl) : DE X (.Compare a [.In] [b] pos) (tOp (rInD K) ta tb) (d2 gInL fa fb) := by subst hK; exact de_inL hr ha hb hm
theorem de_lenK {p : Pos} (hK : X.K = K) (hg : Gl X "len") (hm : X.mg "len" = none) (ha : DE X a ta fa) (hs : starEach [a] X.env = (false, eval a X.env) :: starEach [] X.env := by rfl) (hpl : (backTo pos (starEach [] X.env)).any (·.1) = false := by rfl) :
    DE X (.Call (.Name "len" p) [a] [] pos) (tCB (rLenA K) (tCons ta tNil)) (dCB gLen (aCons fa aNil)) := by subst hK; exact de_len hg hm ha hs hpl
theorem de_tupleK {p : Pos} (hK : X.K = K) (hg : Gl X "tuple") (hm : X.mg "tuple" = none) (ha : DE X a ta fa) (hs : starEach [a] X.env = (false, eval a X.env) :: starEach [] X.env := by rfl) (hpl : (backTo pos (starEach [] X.env)).any (·.1) = false := by rfl) :
    DE X (.Call (.Name "tuple" p) [a] [] pos) (tCB (rTupleOf K) (tCons ta tNil)) (dCB gTuple (aCons fa aNil)) := by subst hK; exact de_tuple hg hm ha hs hpl
theorem di_anyK (hK : X.K = K) (h : DE X a ta fa) : DI X tg a (tSeqAny K ta) (iAny fa) := by subst hK; exact di_any h
theorem de_callK {F : List D → Option D} {k : Nat} {f : Addr} {fd : FuncData} {ps : List Str} {x : Str} {p : Pos} (hK : X.K = K) (G : FnOk X.prog X.w K X.mg X.base CX0 k f fd ps (spD K F)) (hr : Room k X.A) (hg : Gl X x) (hm : X.mg x = some (.ref f)) (hk : PySem.W.keepIn K (.ref f) = true) (hb : Binds K fd ps [])
    (ha : DA X (e :: es) tr fr) (hdb : (x == ("__debug__" : Str)) = false := by decide) (he : starEach (e :: es) X.env = (false, eval e X.env) :: starEach es X.env := by rfl) (hpl : (backTo pos (starEach es X.env)).any (·.1) = false := by rfl) :
    DE X (.Call (.Name x p) (e :: es) [] pos) (tCall (spD K F) [] E0 tr) (dCall F fr) := by subst hK; exact de_call G hr hg hm hk hb ha hdb he hpl
end
end DD

namespace ZZ
open PySem PySem.Spec PyProof.Rows L2
section
variable {prog : Program} {w : World} {A : Around} {E : Value → Shared → Prop}
abbrev IsZg (h : Heap) (z TI TO : Addr) (f0 : Value) (f1 : Bool) : Prop :=
  h.get? z = some { cls := .type "zip", dict := none, data := .fields #[f0, .bool f1, .bool false, .ref TI, .ref TO], slots := #[] }
abbrev IsTp (h : Heap) (T : Addr) (vs : List Value) : Prop := h.get? T = some { cls := .type "tuple", data := .seq vs.toArray }
structure Prs (ps : List (Addr × Addr)) : Prop where
  nd : (ps.map (·.1)).Nodup
  ap : ∀ p ∈ ps, ∀ q ∈ ps, p.2 ≠ q.1
theorem Prs.ne {p : Addr × Addr} {ps : List (Addr × Addr)} (h : Prs (p :: ps)) : p.1 ∉ ps.map (·.1) := (List.nodup_cons.mp h.nd).1
abbrev Itr1 (h : Heap) (i : Nat) (ps : List (Addr × Addr)) : Prop := ∀ p ∈ ps, h.IsTupleIter p.1 p.2 i
end
end ZZ

namespace ZZ
open PySem PySem.Spec PyProof.Rows L2
section
variable {prog : Program} {w : World} {A : Around} {E : Value → Shared → Prop} {s : Shared}
structure Sep (z TI TO : Addr) (ps : List (Addr × Addr)) : Prop where
  prs : Prs ps
  zTI : TI ≠ z
  zTO : TO ≠ z
  IO : TI ≠ TO
  zn : z ∉ ps.map (·.1)
  In : TI ∉ ps.map (·.1)
  On : TO ∉ ps.map (·.1)
  tz : ∀ p ∈ ps, p.2 ≠ z
  tO : ∀ p ∈ ps, p.2 ≠ TO
end
end ZZ

namespace ZZ
open PySem PySem.Spec PyProof.Rows L2
end ZZ

namespace ZZ
open PySem PySem.Spec PyProof.Rows L2
def mkPs : Nat → List Addr → List (Addr × Addr)
  | _, [] => []
  | a, t :: r => (a, t) :: mkPs (a + 1) r
section
variable {prog : Program} {w : World} {A : Around} {E : Value → Shared → Prop}
end
structure NewZip (h h' : Heap) (ts : List Addr) : Prop where
  z : IsZg h' (h.objs.size + ts.length + 2) (h.objs.size + ts.length) (h.objs.size + ts.length + 1) .none false
  I : IsTp h' (h.objs.size + ts.length) ((mkPs h.objs.size ts).map fun p => .ref p.1)
  O : IsTp h' (h.objs.size + ts.length + 1) ((mkPs h.objs.size ts).map fun _ => .none)
  it : Itr1 h' 0 (mkPs h.objs.size ts)
  up : ∀ c o, h.get? c = some o → h'.get? c = some o
section
variable {prog : Program} {w : World} {A : Around} {E : Value → Shared → Prop} {s : Shared}
end
end ZZ

namespace DD
open PySem PySem.Spec PyProof.Rows L2 Evl
section
variable {K : PySem.W.Frag} {X : Cx} {pos : Pos} {e : Expr} {te : TE} {f : En → Option D} {B H : Hp}
inductive RowsAt (K : PySem.W.Frag) (H : Hp) : List Addr → List (List D) → Prop
  | nil : RowsAt K H [] []
  | cons {t : Addr} {ts : List Addr} {ds : List D} {rs : List (List D)} {xs : List V} : SqT K H t xs → RpAll K H xs ds → RowsAt K H ts rs → RowsAt K H (t :: ts) (ds :: rs)
theorem RowsAt.len : ∀ {ts : List Addr} {rs : List (List D)}, RowsAt K H ts rs → ts.length = rs.length
  | _, _, .nil => rfl
  | _, _, .cons _ _ q => by rw [List.length_cons, List.length_cons, q.len]
theorem RowsAt.up {H' : Hp} (x : Ex H H') : ∀ {ts : List Addr} {rs : List (List D)}, RowsAt K H ts rs → RowsAt K H' ts rs
  | _, _, .nil => .nil
  | _, _, .cons a b q => .cons (ex_t x a) (b.up x) (q.up x)
theorem RowsAt.mem : ∀ {ts : List Addr} {rs : List (List D)}, RowsAt K H ts rs → ∀ t ∈ ts, ∃ xs ds, SqT K H t xs ∧ RpAll K H xs ds ∧ ds ∈ rs
  | _, _, .nil, _, h => by cases h
  | _, _, .cons a b q, t, h => by
    rcases List.mem_cons.mp h with rfl | h
    · exact ⟨_, _, a, b, List.mem_cons_self⟩
    · obtain ⟨xs, ds, h1, h2, h3⟩ := q.mem t h
      exact ⟨xs, ds, h1, h2, List.mem_cons_of_mem _ h3⟩
theorem RowsAt.col {i : Nat} : ∀ {ts : List Addr} {rs : List (List D)} {ys : List V}, RowsAt K H ts rs → (∀ q ∈ rs, i < q.length) → ys.length = ts.length →
    (∀ (j : Nat) (t : Addr) (xs : List V), ts[j]? = some t → SqT K H t xs → ∃ x, ys[j]? = some x ∧ xs[i]? = some x) → RpAll K H ys (rs.map fun r => r.getD i .non)
  | _, _, ys, .nil, _, hl, _ => by
    cases ys with
    | nil => exact .nil
    | cons y ys => simp at hl
  | _, _, ys, .cons (ds := ds) a b q, hw, hl, h => by
    cases ys with
    | nil => simp at hl
    | cons y ys =>
      obtain ⟨x, h1, h2⟩ := h 0 _ _ rfl a
      have h1 : some y = some x := h1
      cases h1
      have hi : i < ds.length := hw _ List.mem_cons_self
      obtain ⟨v, h3, h4⟩ := b.get i (List.getElem?_eq_getElem hi)
      rw [h2] at h3
      cases h3
      refine .cons ?_ (q.col (fun q hq => hw q (List.mem_cons_of_mem _ hq)) (by simpa using hl) fun j t xs hj hx => h (j + 1) t xs hj hx)
      show Rp K H y (ds.getD i .non)
      rw [List.getD_eq_getElem?_getD, List.getElem?_eq_getElem hi]
      exact h4
end
end DD

namespace ZZ
open PySem PySem.Spec PyProof.Rows L2 HT
section
variable {prog : Program} {w : World} {A : Around} {E : Value → Shared → Prop} {s : Shared}
end
end ZZ
namespace DD
open PySem PySem.Spec PyProof.Rows L2 Evl
section
variable {K : PySem.W.Frag} {X : Cx} {e : Expr} {te : TE} {f : En → Option D}
end
end DD

namespace DD
open PySem PySem.Spec PyProof.Rows L2 Evl
section
variable {K : PySem.W.Frag} {X : Cx}
end
end DD

namespace DD
open PySem PySem.Spec PyProof.Rows L2 Evl
section
variable {X : Cx} {pos : Pos} {tg : Expr} {te : TE} {f : En → Option D} {tt : TT} {ft : En → Option Bool}
theorem ds_setLcD {i : Nat} {y : Str} {py spos : Pos} {elt iter : Expr} {ifs : List Expr} {scope : Scope} {own : List (Str × Nat)} {wi : TI} {g : TG} {fi : En → Option (List D)} {gd : D → En → Option En} {is : List Nat} (hc : X.calm = true) (hN : X.N.Nodup) (hi : DI X tg iter wi fi) (ok : BlkOk X.N X.env.scope scope own)
    (hg : ∀ (s : Shared) (H : Hp) (C : Addr) (cl : List (Str × Addr)) (fp : List Addr), DG (X.blk s H scope (compEnvC scope cl C X.env) fp) tg g gd is) (ht : ∀ (s : Shared) (H : Hp) (C : Addr) (cl : List (Str × Addr)) (fp : List Addr), DTs (X.blk s H scope (compEnvC scope cl C X.env) fp) ifs tt ft)
    (he : ∀ (s : Shared) (H : Hp) (C : Addr) (cl : List (Str × Addr)) (fp : List Addr), DE (X.blk s H scope (compEnvC scope cl C X.env) fp) elt te f) (hy : X.N[i]? = some y) (hyl : X.env.scope.names.lookup y = some .local)
    (hsw : swapsWith (.ListComp elt [⟨tg, iter, ifs, 0⟩] scope pos) (some (.Name y py)) spos.line X.env = pure true) (hsub : ∀ j ∈ is, j ∈ own.map (·.2) := by decide) (hs : ∀ x, foldedSetIterable iter X.env x = pure x := by intro _; rfl) :
    DS X (.Assign [.Name y py] (.ListComp elt [⟨tg, iter, ifs, 0⟩] scope pos) spos) (tAsg (tLc wi g tt te (own.map (·.2))) (gName i)) (sSet i (dL (lLc fi gd ft f (own.map (·.2))))) :=
  ds_set (DL.de (dl_lc (pos := pos) hc hN hi ok hg ht he hsub hs)) (ps_setLc hc hN hy hyl hsw hi.p ok (fun s H C cl fp => (hg s H C cl fp).p) (fun s H C cl fp => (ht s H C cl fp).p) (fun s H C cl fp => (he s H C cl fp).p) hs)
end
end DD

namespace DD
open PySem PySem.Spec PyProof.Rows L2 Evl
section
variable {K : PySem.W.Frag} {X : Cx} {pos : Pos} {a b : Expr} {ta tb : TE} {fa fb : En → Option D} {tr : TA} {fr : En → Option (List D)}
end
end DD

namespace ZZ
open PySem PySem.Spec PyProof.Rows L2
end ZZ

namespace DD
open PySem PySem.Spec PyProof.Rows L2 Evl
section
variable {K : PySem.W.Frag} {X : Cx} {e x : Expr} {te ta : TE} {f fa : En → Option D} {B : Hp}
theorem RpAll.dl : ∀ {vs : List V} {ds : List D}, RpAll K B vs ds → RpAll K B vs.dropLast ds.dropLast
  | _, _, .nil => .nil
  | _, _, .cons a .nil => .nil
  | _, _, .cons a (.cons b c) => by
    rw [List.dropLast_cons₂, List.dropLast_cons₂]
    exact .cons a (RpAll.dl (.cons b c))
end
end DD

namespace DD
open PySem PySem.Spec PyProof.Rows L2 Evl
section
variable {K : PySem.W.Frag} {X : Cx} {pos : Pos} {a b : Expr} {ta tb : TE} {fa fb : En → Option D}
end
end DD

namespace DD
open PySem PySem.Spec PyProof.Rows L2 Evl
section
variable {X : Cx} {A : Around} {pins : List (Addr × Obj)} {σ : L2.St} {H : Hp} {s : Shared}
structure MkSt (X : Cx) (pins : List (Addr × Obj)) (σ : L2.St) (B0 H0 : Hp) (p It S : Addr) (j : Nat) (B H : Hp) (s : Shared) : Prop where
  inv : L2.Inv X pins σ H s
  ext : Ext B0 H0 B H
  it : s.heap.IsListIter It p j
  fI : FpOk X pins H It
  fS : FpOk X pins H S
theorem MkSt.set {B0 H0 B : Hp} {p It S : Addr} {j : Nat} {o : Obj} {f : Array Value → Array Value} (m : MkSt X pins σ B0 H0 p It S j B H s) (hne : It ≠ S) : MkSt X pins σ B0 H0 p It S j B H { s with heap := s.heap.update S (Obj.mapSeq f) } := by
  refine ⟨m.inv.turnedL (t' := s.toks) (ch := [S]) (fun b o hb e => ?_) (fun b hb => ?_), m.ext, m.it.at fun o e => ?_, m.fI, m.fS⟩
  · have : b ≠ S := fun z => hb (by rw [z]; exact List.mem_singleton.mpr rfl)
    exact (Heap.get?_update_other _ _ (Ne.symm this)).trans e
  · rw [List.mem_singleton.mp hb]; exact m.fS
  · exact (Heap.get?_update_other _ _ (Ne.symm hne)).trans e
end
section
variable {K : PySem.W.Frag} {X : Cx} {pos : Pos} {a : Expr} {ta : TE} {fa : En → Option D}
end
end DD

namespace ZZ
open PySem PySem.Spec PyProof.Rows L2
section
variable {X : Cx} {A : Around} {pins : List (Addr × Obj)} {s : Shared} {σ : L2.St} {H : Hp} {E : Value → Shared → Prop} {z TI TO : Addr} {ps : List (Addr × Addr)} {i : Nat}
end
end ZZ

namespace DD
open PySem PySem.Spec PyProof.Rows L2 Evl RZ
section
variable {K : PySem.W.Frag} {X : Cx} {pos : Pos} {tg a b c e : Expr} {ta tb tc te : TE} {fa fb fc f : En → Option D} {B B1 H B0 : Hp} {H0 : HB} {tt tu : TT} {ft fu : En → Option Bool} {es rest : List Expr} {tr : TA} {fr : En → Option (List D)}
def lRevL (f : En → Option D) : En → Option (List D) := fun en => (f en).bind fun
  | .lst ds => some ds.reverse
  | _ => none
theorem dl_revL {k : Nat} {p1 p2 p3 : Pos} (hK : X.K = K) (he : DE X e te f) : DL X (.Subscript e (.Slice none none (some (.UnaryOp .USub (.Constant (.int 1) k p1) p2)) p3) pos) (tRevL K te) (lRevL f) := by
  subst hK
  exact ⟨pe_revL he.p, fun B0 H0 B H σ en d hE e Q k => by
    obtain ⟨d1, e1, e⟩ := obind e
    refine he.c B0 H0 B H σ en d1 hE e1 _ fun v B1 H1 x r => ?_
    split at e
    · cases e
      cases r with
      | lst s q => exact ⟨_, _, rfl, ex_l x.bh s, fun p hp => k p _ B1 _ (x.trans (Ext.newM x.bh hp)) (ext_fresh x hp) (fresh_back x.bh hp) upd_same q.rev⟩
    · cases e⟩
def sAsgG (f : En → Option D) (gd : D → En → Option En) : En → Option Out := fun en => (f en).bind fun d => (gd d en).map .nx
theorem ds_asgG {pos' : Pos} {g : TG} {gd : D → En → Option En} {is : List Nat} (he : DE X e te f) (hg : DG X tg g gd is) (hs : swapsWithSole [tg] e pos'.line X.env = pure false := by rfl) (hw : swappedStores [tg] e X.env = pure none := by rfl)
    (h1 : (assignEach [tg] X.env).map (·.2) = [assign tg X.env] := by rfl) : DS X (.Assign [tg] e pos') (tAsg te g) (sAsgG f gd) :=
  ⟨ps_asg he.p hg.p hs hw h1, fun B0 H0 B H σ en o hE q Dn k => by
    obtain ⟨d, e1, q⟩ := obind q
    obtain ⟨en', e2, rfl⟩ := omap q
    refine he.c B0 H0 B H σ en d hE e1 _ fun v B1 H1 x r => ?_
    exact hg.c B0 H0 B1 H1 σ en v d en' (hE.up x) r e2 _ fun σ' B2 H2 x2 hE2 _ _ => k σ' B2 H2 (x.bb.trans x2.bb) hE2⟩
def maxD : List Int → Int
  | [] => 0
  | i :: r => r.foldl max i
def minD : List Int → Int
  | [] => 0
  | i :: r => r.foldl min i
theorem foldl_max : ∀ (r : List Int) (i : Int), r.foldl max i ∈ i :: r ∧ ∀ y ∈ i :: r, y ≤ r.foldl max i
  | [], i => ⟨by simp, fun y h => by simp at h; show y ≤ i; omega⟩
  | j :: r, i => by
    obtain ⟨h1, h2⟩ := foldl_max r (max i j)
    refine ⟨?_, fun y hy => ?_⟩
    · show r.foldl max (max i j) ∈ _
      rcases List.mem_cons.mp h1 with h | h
      · rw [h]
        by_cases q : i ≤ j
        · rw [Int.max_eq_right q]; simp
        · rw [Int.max_eq_left (by omega)]; simp
      · exact List.mem_cons_of_mem _ (List.mem_cons_of_mem _ h)
    · show y ≤ r.foldl max (max i j)
      have h3 := h2 (max i j) List.mem_cons_self
      have q1 : i ≤ max i j := Int.le_max_left _ _
      have q2 : j ≤ max i j := Int.le_max_right _ _
      rcases List.mem_cons.mp hy with rfl | hy
      · omega
      · rcases List.mem_cons.mp hy with rfl | hy
        · omega
        · exact h2 y (List.mem_cons_of_mem _ hy)
theorem maxD_one {ns : List Int} (h : ns ≠ []) {m : Int} (h1 : m ∈ ns) (h2 : ∀ y, y ∈ ns → y ≤ m) : m = maxD ns := by
  cases ns with
  | nil => exact (h rfl).elim
  | cons i r =>
    obtain ⟨a, b⟩ := foldl_max r i
    have := h2 _ a
    have := b m h1
    show m = r.foldl max i
    omega
def zipD (xs ys : List D) : List D := (xs.zip ys).map fun p => .tup [p.1, p.2]
theorem zipD_get {xs ys : List D} {i : Nat} {d : D} (h : (zipD xs ys)[i]? = some d) : ∃ x y, xs[i]? = some x ∧ ys[i]? = some y ∧ d = .tup [x, y] := by
  unfold zipD at h
  rw [List.getElem?_map] at h
  obtain ⟨p, h1, rfl⟩ := omap h
  rw [List.getElem?_zip_eq_some] at h1
  exact ⟨_, _, h1.1, h1.2, rfl⟩
theorem zipD_len {xs ys : List D} : (zipD xs ys).length = min xs.length ys.length := by unfold zipD; rw [List.length_map, List.length_zip]
def iZip2 (g : En → Option (List D)) : En → Option (List D) := fun en => (g en).bind fun
  | [.lst xs, .lst ys] => some (zipD xs ys)
  | [.tup xs, .tup ys] => some (zipD xs ys)
  | _ => none
theorem walk_zl {p q : Addr} {vs ws : List V} {xs ys : List D} (s : SqL K B p vs) (s' : SqL K B q ws) (r : RpAll K B vs xs) (r' : RpAll K B ws ys) : WalkD K (Itz K p q) B (zipD xs ys) where
  go := fun i H d hE e => by
    obtain ⟨x, y, h1, h2, rfl⟩ := zipD_get e
    obtain ⟨v, h3, _⟩ := r.get i h1
    obtain ⟨w, h4, _⟩ := r'.get i h2
    exact ⟨vs, ws, v, w, ex_l hE s, ex_l hE s', h3, h4⟩
  yl := fun i B1 H d x H' h1 h2 e y => by
    obtain ⟨x1, y1, e1, e2, rfl⟩ := zipD_get e
    obtain ⟨v, q1, q2⟩ := r.get i e1
    obtain ⟨w, q3, q4⟩ := r'.get i e2
    obtain ⟨T, u, u', rfl, hT, rfl, hy, hy'⟩ := y
    have a1 := hy vs (ex_l (h1.trans h2) s)
    have a2 := hy' ws (ex_l (h1.trans h2) s')
    rw [q1] at a1
    rw [q3] at a2
    cases a1; cases a2
    exact ⟨_, Ext.new h2 hT, .tup upd_same ((RpAll.cons (q2.up h1) (.cons (q4.up h1) .nil)).up (Ex.new (fresh_back h2 hT)))⟩
  stop := fun i H hE hl => by
    rw [zipD_len, ← r.len, ← r'.len] at hl
    exact ⟨vs, ws, ex_l hE s, ex_l hE s', by omega⟩
theorem walk_zt {p q : Addr} {vs ws : List V} {xs ys : List D} (s : SqT K B p vs) (s' : SqT K B q ws) (r : RpAll K B vs xs) (r' : RpAll K B ws ys) : WalkD K (ItzT K p q) B (zipD xs ys) where
  go := fun i H d hE e => by
    obtain ⟨x, y, h1, h2, rfl⟩ := zipD_get e
    obtain ⟨v, h3, _⟩ := r.get i h1
    obtain ⟨w, h4, _⟩ := r'.get i h2
    exact ⟨vs, ws, v, w, ex_t hE s, ex_t hE s', h3, h4⟩
  yl := fun i B1 H d x H' h1 h2 e y => by
    obtain ⟨x1, y1, e1, e2, rfl⟩ := zipD_get e
    obtain ⟨v, q1, q2⟩ := r.get i e1
    obtain ⟨w, q3, q4⟩ := r'.get i e2
    obtain ⟨T, u, u', rfl, hT, rfl, hy, hy'⟩ := y
    have a1 := hy vs (ex_t (h1.trans h2) s)
    have a2 := hy' ws (ex_t (h1.trans h2) s')
    rw [q1] at a1
    rw [q3] at a2
    cases a1; cases a2
    exact ⟨_, Ext.new h2 hT, .tup upd_same ((RpAll.cons (q2.up h1) (.cons (q4.up h1) .nil)).up (Ex.new (fresh_back h2 hT)))⟩
  stop := fun i H hE hl => by
    rw [zipD_len, ← r.len, ← r'.len] at hl
    exact ⟨vs, ws, ex_t hE s, ex_t hE s', by omega⟩
theorem di_zip2 {elts : List Expr} {kk : Nat} {p tpos : Pos} (hK : X.K = K) (hg : Gl X "zip") (hm : X.mg "zip" = none) (ha : DA X [a, b] tr fr) (hs : starEach [a, b] X.env = (false, eval a X.env) :: starEach [b] X.env := by rfl) (hpl : (backTo pos (starEach [b] X.env)).any (·.1) = false := by rfl) :
    DI X (.Tuple elts kk tpos) (.Call (.Name "zip" p) [a, b] [] pos) (iZipA K tr) (iZip2 fr) := by
  subst hK
  exact ⟨pi_zipA hg hm ha.p hs hpl, fun B0 H0 B H σ en ds hE e R k => by
    obtain ⟨d, e1, e⟩ := obind e
    refine ha.c B0 H0 B H σ en d hE e1 _ fun vs B1 H1 x r => ?_
    split at e
    · cases e
      obtain ⟨v, v', rfl, r1, r2⟩ := r.two
      cases r1 with
      | lst s q =>
        cases r2 with
        | lst s' q' => exact ⟨_, _, _, _, rfl, .inl ⟨ex_l x.bh s, ex_l x.bh s', k _ B1 H1 x (walk_zl s s' q q')⟩⟩
    · cases e
      obtain ⟨v, v', rfl, r1, r2⟩ := r.two
      cases r1 with
      | tup s_ q =>
        have s := SqT.of (K := X.K) s_
        cases r2 with
        | tup s'_ q' => have s' := SqT.of (K := X.K) s'_; exact ⟨_, _, _, _, rfl, .inr ⟨ex_t x.bh s, ex_t x.bh s', k _ B1 H1 x (walk_zt s s' q q')⟩⟩
    · cases e⟩
end
end DD

namespace DD
open PySem PySem.Spec PyProof.Rows L2 Evl
def calmE (en : En) : Bool := en.all fun s => !s.mut
def lc2Go (gd : D → En → Option En) (ft : En → Option Bool) (fi1 : En → Option (List D)) (gd1 : D → En → Option En) (ft1 : En → Option Bool) (fe : En → Option D) (vs1 : List Nat) (en : En) : List D → Option (List D)
  | [] => some []
  | d :: r => (gd d en).bind fun en1 => if calmE en1 = true then (ft en1).bind fun b => if b = true then (fi1 en1).bind fun ds1 => (lcGo gd1 ft1 fe (wipeE en1 vs1) ds1).bind fun ys => (lc2Go gd ft fi1 gd1 ft1 fe vs1 en r).map fun zs => ys ++ zs else lc2Go gd ft fi1 gd1 ft1 fe vs1 en r else none
def lLc2 (fi : En → Option (List D)) (gd : D → En → Option En) (ft : En → Option Bool) (fi1 : En → Option (List D)) (gd1 : D → En → Option En) (ft1 : En → Option Bool) (fe : En → Option D) (vs vs1 : List Nat) : En → Option (List D) :=
  fun en => (fi en).bind fun ds => (lc2Go gd ft fi1 gd1 ft1 fe vs1 (wipeE en vs) ds).bind fun out => if out.length ≤ lim then some out else none
section
variable {K : PySem.W.Frag} {X : Cx} {pos : Pos} {tg tg1 : Expr} {te : TE} {f : En → Option D} {tt tt1 : TT} {ft ft1 : En → Option Bool} {B H B0 : Hp} {H0 : HB}
theorem calm_up {B' H' : Hp} {σ : L2.St} {en : En} (h : EnOk K B0 H0 B H σ en) (hc : calmE en = true) (hb : Ex B B') (hx : Ext B0 H0 B' H') : EnOk K B0 H0 B' H' σ en := by
  have nm : ∀ (i : Nat) (s : Sl), en[i]? = some s → s.mut = true → False := fun i s e m => by
    have := List.all_eq_true.mp hc s (List.mem_of_getElem? e)
    rw [m] at this
    cases this
  refine ⟨hx, h.len, fun i s o a b => ?_, fun i j si sj oi oj q a _ _ _ f _ => (nm i si a f.mut).elim, fun i s o q a _ f => (nm i s a f.mut).elim, h.root, h.ro⟩
  have q := h.slot i s o a b
  cases s with
  | no => trivial
  | dat d => obtain ⟨v, q1, q2⟩ := q; exact ⟨v, q1, q2.up hb⟩
  | ro t => trivial
  | _ => exact (nm i _ a rfl).elim
theorem cl_lc2 {wi wi1 : TI} {g g1 : TG} {fi fi1 : En → Option (List D)} {gd gd1 : D → En → Option En} {is is1 vs vs1 : List Nat} (hi : CI K wi fi) (hg : CG K g gd is) (ht : CT K tt ft) (hi1 : CI K wi1 fi1) (hg1 : CG K g1 gd1 is1) (ht1 : CT K tt1 ft1) (he : CE K te f)
    (hs : ∀ j ∈ is, j ∈ vs) (hs1 : ∀ j ∈ is1, j ∈ vs1) : CL K (tLc2 wi g tt wi1 g1 tt1 te vs vs1) (lLc2 fi gd ft fi1 gd1 ft1 f vs vs1) := fun B0 H0 B H σ en out hE e Q k => by
  obtain ⟨ds, e1, e⟩ := obind e
  obtain ⟨out', e2, e⟩ := obind e
  obtain ⟨hlim, rfl⟩ := oite e
  refine hi B0 H0 B H σ en ds hE e1 _ fun J B1 H1 x1 W => ?_
  intro Dl hD
  have hE1 := hE.up x1
  -- what stands between two items of the outer walk
  let Nx : List D → Hp → Prop := fun rest H' => ∃ B' vs' acc, Ext B1 H1 B' H' ∧ B' Dl = none ∧ H' Dl = some (.lst vs') ∧ RpAll K B' vs' acc ∧ acc ++ rest = out'
  refine ⟨fun i m H' => m = ds.length - i ∧ i ≤ ds.length ∧ ∃ rest, lc2Go gd ft fi1 gd1 ft1 f vs1 (wipeE en vs) (ds.drop i) = some rest ∧ Nx rest H',
    ⟨ds.length, by simp, Nat.zero_le _, out', e2, B1, [], [], Ext.newM x1.bh hD, fresh_back x1.bh hD, upd_same, .nil, rfl⟩, ?_⟩
  rintro i m H' ⟨rfl, hi', rest, hgo, B', vs', acc, x2, hb, hp, r, hout⟩
  by_cases hlt : i < ds.length
  · have hd : ds[i]? = some ds[i] := List.getElem?_eq_getElem hlt
    rw [List.drop_eq_getElem_cons hlt] at hgo
    obtain ⟨en1, gg1, hgo⟩ := obind hgo
    by_cases hcalm : calmE en1 = true
    · rw [if_pos hcalm] at hgo
      obtain ⟨b, gg2, hgo⟩ := obind hgo
      -- the rest behind this item
      obtain ⟨rest2, hrest2⟩ : ∃ rest2, lc2Go gd ft fi1 gd1 ft1 f vs1 (wipeE en vs) (ds.drop (i + 1)) = some rest2 := by
        cases b with
        | true =>
          rw [if_pos rfl] at hgo
          obtain ⟨ds1, _, hgo⟩ := obind hgo
          obtain ⟨ys, _, hgo⟩ := obind hgo
          obtain ⟨zs, h, _⟩ := omap hgo
          exact ⟨zs, h⟩
        | false => rw [if_neg Bool.false_ne_true] at hgo; exact ⟨rest, hgo⟩
      refine .inr ⟨W.go i H' _ (x2.bb.trans x2.bh) hd, Nx rest2, fun H'' q => ⟨ds.length - (i + 1), by omega, rfl, hlt, rest2, hrest2, q⟩, fun v H2 y => ?_⟩
      obtain ⟨B2, x3, r2⟩ := W.yl i B' H' _ v H2 x2.bb x2.bh hd y
      have hE2 := (hE1.up (x2.trans x3)).wipe vs
      refine hg B0 H0 B2 H2 _ _ v _ en1 hE2 r2 gg1 _ fun σ2 B3 H3 x4 hE3 l3 k3 => ⟨wipe_same l3 k3 hs, ?_⟩
      refine ht B0 H0 B3 H3 σ2 en1 b hE3 gg2 _ fun B4 H4 x5 => ?_
      have x6 := (x3.trans x4).trans x5
      have keep : B4 Dl = none := (x6.st Dl (ne_some hp)).trans hb
      have hE4 := hE3.up x5
      cases b with
      | true =>
        rw [if_pos rfl] at hgo ⊢
        obtain ⟨ds1, gg3, hgo⟩ := obind hgo
        obtain ⟨ys, gg4, hgo⟩ := obind hgo
        obtain ⟨zs, gg5, rfl⟩ := omap hgo
        rw [hrest2] at gg5
        cases gg5
        refine hi1 B0 H0 B4 H4 σ2 en1 ds1 hE4 gg3 _ fun J1 B5 H5 x7 W1 => ?_
        have hE5 := hE4.up x7
        have x8 := x2.trans (x6.trans x7)
        have keep5 : B5 Dl = none := (x7.st Dl (ne_some (x6.hh _ _ hp))).trans keep
        refine ⟨fun j k' H'' => k' = ds1.length - j ∧ j ≤ ds1.length ∧ ∃ B'' vs'' acc'' rest1, Ext B1 H1 B'' H'' ∧ Ex B5 B'' ∧ B'' Dl = none ∧ H'' Dl = some (.lst vs'') ∧ RpAll K B'' vs'' acc'' ∧ lcGo gd1 ft1 f (wipeE en1 vs1) (ds1.drop j) = some rest1 ∧ acc'' ++ (rest1 ++ rest2) = out',
          ⟨ds1.length, by simp, Nat.zero_le _, B5, vs', acc, ys, x8, Ex.refl _, keep5, x7.hh _ _ (x6.hh _ _ hp), r.up (x6.bb.trans x7.bb), gg4, hout⟩, ?_⟩
        rintro j k' H6 ⟨rfl, hj', B6, vs6, acc6, rest1, x9, hx, hb6, hp6, r6, hgo1, hout6⟩
        by_cases hjl : j < ds1.length
        · have hd1 : ds1[j]? = some ds1[j] := List.getElem?_eq_getElem hjl
          rw [List.drop_eq_getElem_cons hjl] at hgo1
          obtain ⟨en2, gg6, hgo1⟩ := obind hgo1
          obtain ⟨b1, gg7, hgo1⟩ := obind hgo1
          refine .inr ⟨W1.go j H6 _ (hx.trans x9.bh) hd1, fun H'' => ∃ B'' vs'' acc'' rest1, Ext B1 H1 B'' H'' ∧ Ex B5 B'' ∧ B'' Dl = none ∧ H'' Dl = some (.lst vs'') ∧ RpAll K B'' vs'' acc'' ∧ lcGo gd1 ft1 f (wipeE en1 vs1) (ds1.drop (j + 1)) = some rest1 ∧ acc'' ++ (rest1 ++ rest2) = out',
            fun H'' q => ⟨ds1.length - (j + 1), by omega, rfl, hjl, q⟩, fun v7 H7 y7 => ?_⟩
          obtain ⟨B7, x10, r7⟩ := W1.yl j B6 H6 _ v7 H7 hx x9.bh hd1 y7
          have hE7 : EnOk K B0 H0 B7 H7 (L2.wipe σ2 vs1) (wipeE en1 vs1) := (calm_up hE5 hcalm (hx.trans x10.bb) (hE1.ext.trans (x9.trans x10))).wipe vs1
          refine hg1 B0 H0 B7 H7 _ _ v7 _ en2 hE7 r7 gg6 _ fun σ3 B8 H8 x11 hE8 l8 k8 => ⟨wipe_same l8 k8 hs1, ?_⟩
          refine ht1 B0 H0 B8 H8 σ3 en2 b1 hE8 gg7 _ fun B9 H9 x12 => ?_
          have x13 := (x10.trans x11).trans x12
          have keep9 : B9 Dl = none := (x13.st Dl (ne_some hp6)).trans hb6
          cases b1 with
          | true =>
            rw [if_pos rfl] at hgo1 ⊢
            obtain ⟨y', gg8, hgo1⟩ := obind hgo1
            obtain ⟨ys1, gg9, rfl⟩ := omap hgo1
            refine he B0 H0 B9 H9 σ3 en2 y' (hE8.up x12) gg8 _ fun u B10 H10 x14 r10 => ?_
            have hp10 := x14.hh _ _ (x13.hh _ _ hp6)
            have hb10 : B10 Dl = none := (x14.st Dl (ne_some (x13.hh _ _ hp6))).trans keep9
            have x15 := x9.trans (x13.trans x14)
            have hz : vs6.length ≤ lim := by
              have := congrArg List.length hout6
              rw [List.length_append] at this
              rw [r6.len]
              omega
            refine ⟨vs6, hp10, lim_lt hz, B10, vs6 ++ [u], acc6 ++ [y'], ys1, ⟨x15.bb, Ex.mut x15.bh hb10, fun a o q => ?_, x15.st⟩, hx.trans (x13.bb.trans x14.bb), hb10, upd_same, (r6.up (x13.bb.trans x14.bb)).app (.cons r10 .nil), gg9, by rw [List.append_assoc]; exact hout6⟩
            rw [upd_ne (ne_of_none q hD)]
            exact x15.hh a o q
          | false =>
            rw [if_neg Bool.false_ne_true] at hgo1 ⊢
            exact ⟨B9, vs6, acc6, rest1, x9.trans x13, hx.trans x13.bb, keep9, x13.hh _ _ hp6, r6.up x13.bb, hgo1, hout6⟩
        · have hj2 : j = ds1.length := by omega
          subst hj2
          rw [List.drop_length] at hgo1
          cases hgo1
          exact .inl ⟨W1.stop _ H6 (hx.trans x9.bh) (Nat.le_refl _), B6, vs6, acc6, x9, hb6, hp6, r6, hout6⟩
      | false =>
        rw [if_neg Bool.false_ne_true] at hgo ⊢
        rw [hrest2] at hgo
        cases hgo
        exact ⟨B4, vs', acc, x2.trans x6, keep, x6.hh _ _ hp, r.up x6.bb, hout⟩
    · rw [if_neg hcalm] at hgo
      cases hgo
  · have hi2 : i = ds.length := by omega
    subst hi2
    refine .inl ⟨W.stop _ H' (x2.bb.trans x2.bh) (Nat.le_refl _), ?_⟩
    rw [List.drop_length] at hgo
    cases hgo
    rw [List.append_nil] at hout
    subst hout
    exact k Dl vs' B' H' (x1.trans x2) (fresh_back x1.hh hD) hb hp r
theorem dl_lc2 {elt iter iter1 : Expr} {ifs ifs1 : List Expr} {scope : Scope} {own : List (Str × Nat)} {vs1 : List Nat} {wi wi1 : TI} {g g1 : TG} {fi fi1 : En → Option (List D)} {gd gd1 : D → En → Option En} {is is1 : List Nat} (hc : X.calm = true) (hN : X.N.Nodup) (hi : DI X tg iter wi fi) (ok : BlkOk X.N X.env.scope scope own)
    (hg : ∀ (s : Shared) (H : Hp) (C : Addr) (cl : List (Str × Addr)) (fp : List Addr), DG (X.blk s H scope (compEnvC scope cl C X.env) fp) tg g gd is) (ht : ∀ (s : Shared) (H : Hp) (C : Addr) (cl : List (Str × Addr)) (fp : List Addr), DTs (X.blk s H scope (compEnvC scope cl C X.env) fp) ifs tt ft)
    (hi1 : ∀ (s : Shared) (H : Hp) (C : Addr) (cl : List (Str × Addr)) (fp : List Addr), DI (X.blk s H scope (compEnvC scope cl C X.env) fp) tg1 iter1 wi1 fi1)
    (hg1 : ∀ (s : Shared) (H : Hp) (C : Addr) (cl : List (Str × Addr)) (fp : List Addr), DG (X.blk s H scope (compEnvC scope cl C X.env) fp) tg1 g1 gd1 is1) (ht1 : ∀ (s : Shared) (H : Hp) (C : Addr) (cl : List (Str × Addr)) (fp : List Addr), DTs (X.blk s H scope (compEnvC scope cl C X.env) fp) ifs1 tt1 ft1)
    (he : ∀ (s : Shared) (H : Hp) (C : Addr) (cl : List (Str × Addr)) (fp : List Addr), DE (X.blk s H scope (compEnvC scope cl C X.env) fp) elt te f) (hv : ∀ i ∈ vs1, i ∈ own.map (·.2) := by decide) (hsub : ∀ j ∈ is, j ∈ own.map (·.2) := by decide) (hsub1 : ∀ j ∈ is1, j ∈ vs1 := by decide)
    (hs : ∀ x, foldedSetIterable iter X.env x = pure x := by intro _; rfl) (hs1 : ∀ env x, foldedSetIterable iter1 env x = pure x := by intro _ _; rfl) :
    DL X (.ListComp elt [⟨tg, iter, ifs, 0⟩, ⟨tg1, iter1, ifs1, 0⟩] scope pos) (tLc2 wi g tt wi1 g1 tt1 te (own.map (·.2)) vs1) (lLc2 fi gd ft fi1 gd1 ft1 f (own.map (·.2)) vs1) :=
  ⟨pe_lc2 hc hN hi.p ok hv (fun s H C cl fp => (hg s H C cl fp).p) (fun s H C cl fp => (ht s H C cl fp).p) (fun s H C cl fp => (hi1 s H C cl fp).p) (fun s H C cl fp => (hg1 s H C cl fp).p) (fun s H C cl fp => (ht1 s H C cl fp).p) (fun s H C cl fp => (he s H C cl fp).p) hs hs1,
    cl_lc2 (K := X.K) hi.c (hg {} (fun _ => none) 0 [] []).c (ht {} (fun _ => none) 0 [] []).c (hi1 {} (fun _ => none) 0 [] []).c (hg1 {} (fun _ => none) 0 [] []).c (ht1 {} (fun _ => none) 0 [] []).c (he {} (fun _ => none) 0 [] []).c hsub hsub1⟩
end
end DD

namespace DD
open PySem PySem.Spec PyProof.Rows L2 Evl
theorem pyMax_int : ∀ (r : List Int) (i : Int), PySem.W.maxD (.int i) (r.map PyData.int) = .int (r.foldl max i)
  | [], i => rfl
  | j :: r, i => by
    have ih := pyMax_int r (max i j)
    show PySem.W.maxD (if PySem.W.dataLt (.int i) (.int j) = true then .int j else .int i) (r.map PyData.int) = _
    rw [PySem.W.dataLt_int]
    by_cases h : i < j
    · rw [decide_eq_true h, if_pos rfl]
      rw [show max i j = j by omega] at ih
      rw [show (j :: r).foldl max i = r.foldl max (max i j) from rfl, show max i j = j by omega]
      exact ih
    · rw [decide_eq_false h, if_neg Bool.false_ne_true]
      rw [show max i j = i by omega] at ih
      rw [show (j :: r).foldl max i = r.foldl max (max i j) from rfl, show max i j = i by omega]
      exact ih
def rMaxDef (K : PySem.W.Frag) (n : Int) : List V → List V → Hp → VK → Prop := fun vs zs H Q => ∃ (a : Addr) (ns : List Int), vs = [V.ref a] ∧ zs = [.int n] ∧ SqL K H a (ns.map V.int) ∧ Q (.int (if ns = [] then n else maxD ns)) H
theorem reads_ints {h : Heap} : ∀ {vs : List Value} {ns : List Int}, Vals (ns.map V.int) vs → ReadsAll h vs (ns.map PyData.int) []
  | _, [], r => by cases r; exact .nil
  | _, n :: ns, r => by
    cases r with
    | cons a b =>
      obtain ⟨t, rfl⟩ := a
      exact ReadsAll.cons (as := []) (bs := []) (.int n t) (reads_ints b)
theorem cr_maxDef {X : Cx} {n : Int} (hc : X.calm = true) (hu : X.A.units + 64 < cLine) : CallRK X (.builtin "max") [Str.ofString "default"] (rMaxDef X.K n) := by
  intro pins s σ H vs zs us ws Q I r rz h
  obtain ⟨a, ns, rfl, rfl, hs, q⟩ := h
  obtain ⟨its, rv, hl, _⟩ := I.list hs
  obtain rfl := Vals.ref1 r
  obtain ⟨w1, rfl, t, rfl⟩ := vals1 rz
  have dep : ∀ ns : List Int, PyData.depthAll (ns.map PyData.int) ≤ 1 := fun ns => by
    induction ns with
    | nil => simp [PyData.depthAll]
    | cons n ns ih =>
      rw [List.map_cons]
      simp only [PyData.depthAll, PyData.depth]
      omega
  refine PySem.W.max_list_default (I.ok.hd hc) hl.isList (reads_ints rv) ⟨fun x hx y hy => ?_, fun x hx => ?_⟩ (by have := dep ns; omega) (fun e h' tk hk => ?_) (fun y ys i v h' tk bs e hv rd hk => ?_)
  · obtain ⟨i, _, rfl⟩ := List.mem_map.mp hx
    obtain ⟨j, _, rfl⟩ := List.mem_map.mp hy
    rfl
  · obtain ⟨i, _, rfl⟩ := List.mem_map.mp hx
    exact fun z => nomatch z
  · have : ns = [] := by
      cases ns with
      | nil => rfl
      | cons => cases e
    rw [if_pos this] at q
    exact ⟨.int n, H, I.kept hk, ⟨t, rfl⟩, q⟩
  · cases ns with
    | nil => cases e
    | cons m ms =>
      rw [List.map_cons] at e
      obtain ⟨rfl, rfl⟩ := List.cons.inj e
      rw [pyMax_int] at rd
      rw [if_neg (fun z => nomatch z)] at q
      cases rd with
      | int _ t => exact ⟨.int _, H, I.kept hk, ⟨t, rfl⟩, q⟩
def dMaxDef (n : Int) (fa : En → Option D) : En → Option D := fun en => (fa en).bind fun
  | .lst ds => (intsOf ds).map fun ns => .int (if ns = [] then n else maxD ns)
  | _ => none
section
variable {K : PySem.W.Frag} {X : Cx} {pos : Pos} {a : Expr} {ta : TE} {fa : En → Option D}
theorem de_maxDef {k j : Nat} {n : Int} {p pf pk : Pos} {nm : Option Str} (hK : X.K = K) (hc : X.calm = true) (hr : Room k X.A) (hg : Gl X "max") (hm : X.mg "max" = none) (ha : DE X a ta fa)
    (he : backTo pos (starEach (a :: []) X.env) = (false, eval a X.env) :: backTo pos (starEach [] X.env) := by rfl) (hs : starEach [a] X.env = (false, eval a X.env) :: starEach [] X.env := by rfl) (hpl : (backTo pos (starEach (a :: []) X.env)).any (·.1) = false := by rfl)
    (hall : (backToKw pos (keywordEach [⟨nm, .Constant (.int n) j pf, pk⟩] X.env)).all (·.1.isSome) = true := by rfl) (hnone : (backToKw pos (keywordEach [⟨nm, .Constant (.int n) j pf, pk⟩] X.env)).any (·.1.isNone) = false := by rfl) (hks : (backToKw pos (keywordEach [⟨nm, .Constant (.int n) j pf, pk⟩] X.env)).filterMap (·.1) = [Str.ofString "default"] := by rfl) :
    DE X (.Call (.Name "max" p) [a] [⟨nm, .Constant (.int n) j pf, pk⟩] pos) (tCKw (rMaxDef K n) (tCons ta tNil) (tCons (tC (.int n)) tNil)) (dMaxDef n fa) := by
  subst hK
  exact ⟨pe_callBK (cr_maxDef hc hr.units) hg hm (by decide +kernel) (pa_cons ha.p pa_nil hs) (pk_cons pe_int pk_nil) (by decide) (by decide) he hpl hall hnone hks, fun B0 H0 B H σ en d hE e Q k => by
    obtain ⟨x, e1, e⟩ := obind e
    refine ha.c B0 H0 B H σ en x hE e1 _ fun v B1 H1 x1 r => ?_
    split at e
    · obtain ⟨ns, e2, rfl⟩ := omap e
      cases r with
      | lst s q =>
        have := q.ints e2
        subst this
        exact ⟨_, ns, rfl, rfl, ex_l x1.bh s, k _ B1 H1 x1 (.int _)⟩
    · cases e⟩
end
end DD

namespace DD
open PySem PySem.Spec PyProof.Rows L2 Evl
section
variable {K : PySem.W.Frag} {X : Cx}
end
end DD

namespace DD
open PySem PySem.Spec PyProof.Rows L2 Evl
@[simp] def Sl.thaw0 (s : Sl) : Sl := match s.thaw with
  | .ro _ => .no
  | s => s
section
variable {K : PySem.W.Frag} {X : Cx} {tg : Expr} {te t1 t2 t3 : TE} {f1 f2 f3 : En → Option D} {B H B0 : Hp} {H0 : HB}
structure Grid (K : PySem.W.Frag) (B H Hb : Hp) (qs : List Addr) (rows : List (List D)) : Prop where
  len : qs.length = rows.length
  nd : qs.Nodup
  bn : ∀ q ∈ qs, B q = none ∧ Hb q = none
  at_ : ∀ (j : Nat) (q : Addr) (r : List D), qs[j]? = some q → rows[j]? = some r → ∃ vs, H q = some (.lst vs) ∧ RpAll K B vs r
theorem Grid.up {B' H' Hb : Hp} {qs : List Addr} {rows : List (List D)} (g : Grid K B H Hb qs rows) (x : Ext B H B' H') : Grid K B' H' Hb qs rows := by
  have hh : ∀ q ∈ qs, ∃ vs, H q = some (.lst vs) := fun q hq => by
    obtain ⟨j, hj⟩ := List.getElem?_of_mem hq
    have hl : j < rows.length := by rw [← g.len]; exact (List.getElem?_eq_some_iff.mp hj).1
    obtain ⟨vs, h, _⟩ := g.at_ j q _ hj (List.getElem?_eq_getElem hl)
    exact ⟨vs, h⟩
  refine ⟨g.len, g.nd, fun q hq => ⟨?_, (g.bn q hq).2⟩, fun j q r h1 h2 => ?_⟩
  · obtain ⟨vs, h⟩ := hh q hq
    exact (x.st q (ne_some h)).trans (g.bn q hq).1
  · obtain ⟨vs, a, b⟩ := g.at_ j q r h1 h2
    exact ⟨vs, x.hh _ _ a, b.up x.bb⟩
theorem Grid.data {Hb : Hp} {qs : List Addr} {rows : List (List D)} (hE : Ex B H) (g : Grid K B H Hb qs rows) {p : Addr} (hp : H p = some (.lst (qs.map V.ref))) (hbp : B p = none) :
    ∃ B', Ex B B' ∧ Ex B' H ∧ Rp K B' (.ref p) (.lst (rows.map .lst)) ∧ ∀ q, q ≠ p → q ∉ qs → B' q = B q := by
  classical
  let B' : Hp := fun q => if q = p ∨ q ∈ qs then H q else B q
  have e1 : Ex B B' := fun q o e => by
    show (if q = p ∨ q ∈ qs then H q else B q) = some o
    by_cases h : q = p ∨ q ∈ qs
    · rw [if_pos h]; exact hE q o e
    · rw [if_neg h]; exact e
  have e2 : Ex B' H := fun q o e => by
    have e : (if q = p ∨ q ∈ qs then H q else B q) = some o := e
    by_cases h : q = p ∨ q ∈ qs
    · rw [if_pos h] at e; exact e
    · rw [if_neg h] at e; exact hE q o e
  have eq : ∀ q, (q = p ∨ q ∈ qs) → B' q = H q := fun q h => if_pos h
  have rows_rp : ∀ (qs' : List Addr) (rows' : List (List D)), qs'.length = rows'.length → (∀ q ∈ qs', q ∈ qs) → (∀ (j : Nat) (q : Addr) (r : List D), qs'[j]? = some q → rows'[j]? = some r → ∃ vs, H q = some (.lst vs) ∧ RpAll K B vs r) → RpAll K B' (qs'.map V.ref) (rows'.map D.lst) := by
    intro qs'
    induction qs' with
    | nil => intro rows' hl _ _; cases rows' with
      | nil => exact .nil
      | cons => cases hl
    | cons q qs' ih =>
      intro rows' hl hm ha
      cases rows' with
      | nil => cases hl
      | cons r rows' =>
        obtain ⟨vs, h1, h2⟩ := ha 0 q r rfl rfl
        refine .cons (.lst (SqL.of ((eq q (.inr (hm q List.mem_cons_self))).trans h1)) (h2.up e1)) (ih rows' (by simpa using hl) (fun z hz => hm z (List.mem_cons_of_mem _ hz)) fun j q r a b => ha (j + 1) q r (by simpa using a) (by simpa using b))
  exact ⟨B', e1, e2, .lst (SqL.of ((eq p (.inl rfl)).trans hp)) (rows_rp qs rows g.len (fun _ h => h) g.at_), fun q h1 h2 => if_neg (fun z => z.elim h1 h2)⟩
theorem ixN_lt {n : Nat} {z : Int} {m : Nat} (h : ixN n z = some m) : m < n := by
  unfold ixN at h
  split at h
  · split at h
    · cases h; omega
    · cases h
  · split at h
    · cases h; omega
    · cases h
end
end DD

namespace ZZ
open PySem PySem.Spec PyProof.Rows L2
def rCatS (K : PySem.W.Frag) : R2 := fun x y H Q => ∃ l b xs zs, x = .ref l ∧ y = .ref b ∧ SqL K H l xs ∧ SqL K H b zs ∧ xs.length + zs.length ≤ sizeLine ∧ ∀ p, H p = none → Q (.ref p) (upd H p (.lst (xs ++ zs)))
theorem op_catS {X : Cx} : OpR X (binaryOp .Add) (rCatS X.K) := by
  intro pins s σ H x y v u Q I rx ry h
  obtain ⟨l, b, xs, zs, rfl, rfl, hH, hB, hz, q⟩ := h
  cases rx
  cases ry
  obtain ⟨its, r, ⟨⟨cls, dd, data, sl⟩, n, ho, hc, _, hd⟩, hs⟩ := I.list hH
  obtain ⟨its2, r2, ⟨⟨cls2, dd2, data2, sl2⟩, n2, ho2, hc2, _, hd2⟩, hs2⟩ := I.list hB
  simp only at hc hd hc2 hd2
  subst hc hd hc2 hd2
  have l1 := r.length
  have l2 := r2.length
  refine concat_meets ⟨_, ho, rfl⟩ ⟨_, ho2, rfl⟩ noFill_list_add seq_list_add PySem.F.slot_list_add PySem.F.entry_list_add (PySem.F.args_list_add_2 _ _) (list_addW l b its.toArray its2.toArray n n2 dd dd2 sl sl2 (by simp; omega)) ⟨ho, ho2, ?_⟩
  have ea : its.toArray ++ its2.toArray = (its ++ its2).toArray := by simp
  rw [ea]
  exact ⟨.ref _, _, I.lnew (t' := s.toks) (r.append r2) (by rw [List.length_append]; omega), rfl, q _ I.fresh⟩
end ZZ
namespace DD
open PySem PySem.Spec PyProof.Rows L2 Evl
section
variable {K : PySem.W.Frag} {X : Cx} {pos : Pos} {tg a b c e : Expr} {ta tb tc te : TE} {fa fb fc f : En → Option D} {B B1 H B0 : Hp} {H0 : HB}
theorem kp_newL {Q : VK} {ds : List D} {vs : List V} (k : Kp K B H (.lst ds) Q) (hE : Ex B H) (r : RpAll K B vs ds) {p : Addr} (hp : H p = none) : Q (.ref p) (upd H p (.lst vs)) :=
  k _ _ _ (ext_keep (Ext.newM hE hp) hp (fresh_back hE hp) upd_same) (.lst (SqL.of upd_same) (r.up (Ex.new (fresh_back hE hp))))
def dCutA (fa : En → Option D) (fl fh : En → Option (Option Int)) : En → Option D := fun en => (fa en).bind fun x => (fl en).bind fun l => (fh en).bind fun h => match x with
  | .str z => if z.length ≤ lim then some (.str (cutS z l h)) else none
  | .tup ds => some (.tup (cutD ds l h))
  | .lst ds => some (.lst (cutD ds l h))
  | _ => none
def rSlAll (K : PySem.W.Frag) : V → Option Int → Option Int → Hp → VK → Prop := fun x lo hi H Q => rSlS x lo hi H Q ∨ (rSlA K x lo hi H Q ∨ rSlL K x lo hi H Q)
theorem sl_all : SlR X (rSlAll X.K) := sl_str.or (sl_tupA.or sl_list)
variable {lo hi : Option Expr} {tl th : TO} {fl fh : En → Option (Option Int)}
theorem cut_whole {ds : List D} {l h : Option Int} (h1 : HT.sIx ds.length 0 l = 0) (h2 : HT.sIx ds.length ds.length h = ds.length) : cutD ds l h = ds := by
  unfold cutD
  rw [h1, h2, List.drop_zero, Nat.sub_zero, List.take_length]
theorem de_cutA {p2 : Pos} (hK : X.K = K) (ha : DE X a ta fa) (hl : DO X lo tl fl) (hh : DO X hi th fh) : DE X (.Subscript a (.Slice lo hi none p2) pos) (tSl (rSlAll K) ta tl th) (dCutA fa fl fh) := by
  subst hK
  exact ⟨pe_slice sl_all ha.p hl.p hh.p, fun B0 H0 B H σ en d hE e Q k => by
    obtain ⟨x, e1, e⟩ := obind e
    obtain ⟨l, e2, e⟩ := obind e
    obtain ⟨h, e3, e⟩ := obind e
    refine ha.c B0 H0 B H σ en x hE e1 _ fun v B1 H1 x1 r1 => ?_
    refine hl.c B0 H0 B1 H1 σ en l (hE.up x1) e2 _ fun B2 H2 x2 => ?_
    refine hh.c B0 H0 B2 H2 σ en h (hE.up (x1.trans x2)) e3 _ fun B3 H3 x3 => ?_
    have x4 := (x1.trans x2).trans x3
    have x23 := x2.bb.trans x3.bb
    split at e
    · obtain ⟨h1, rfl⟩ := oite e
      cases r1
      exact .inl ⟨_, rfl, lim_le h1, k _ B3 H3 x4 (.str _)⟩
    · cases e
      cases r1 with
      | tup s_ q =>
        have s := SqT.of (K := X.K) s_
        have hs := ex_t (x23.trans x3.bh) s
        have q3 := q.up x23
        refine .inr (.inl ⟨_, _, rfl, hs, fun w => ?_, fun w p hp => ?_⟩)
        · rw [q.len] at w
          rw [cut_whole w.1 w.2] at k
          exact k _ B3 H3 x4 (.tup (x23 _ _ s_) q3)
        · exact k _ _ _ (x4.trans (Ext.new x3.bh hp)) (.tup upd_same ((q3.cut l h).up (Ex.new (fresh_back x3.bh hp))))
    · cases e
      cases r1 with
      | lst s q =>
        refine .inr (.inr ⟨_, _, rfl, ex_l (x23.trans x3.bh) s, fun p hp => ?_⟩)
        exact kp_newL (K := X.K) (B := B3) (fun v B' H' x r => k v B' H' (x4.trans x) r) x3.bh ((q.up x23).cut l h) hp
    · cases e⟩
def gCatL : D → D → Option D
  | .lst xs, .lst ys => if xs.length + ys.length ≤ lim then some (.lst (xs ++ ys)) else none
  | _, _ => none
def gAddA (x y : D) : Option D := (gAdd x y).or (gCatL x y)
theorem od_catS : OpD K (ZZ.rCatS K) gCatL := fun B H x y dx dy d hE h1 h2 e Q k => by
  unfold gCatL at e
  split at e
  · obtain ⟨h, rfl⟩ := oite e
    cases h1 with
    | lst s q =>
      cases h2 with
      | lst s2 q2 => exact ⟨_, _, _, _, rfl, rfl, ex_l hE s, ex_l hE s2, by rw [q.len, q2.len]; exact lim_le h, fun p hp => kp_newL k hE (q.app q2) hp⟩
  · cases e
def rAddA (K : PySem.W.Frag) : R2 := fun x y H Q => rAddAll K x y H Q ∨ ZZ.rCatS K x y H Q
end
end DD

namespace ZZ
open PySem PySem.Spec PyProof.Rows L2
end ZZ
namespace DD
open PySem PySem.Spec PyProof.Rows L2 Evl
section
variable {K : PySem.W.Frag} {X : Cx} {pos : Pos} {e : Expr} {te : TE} {f : En → Option D} {B H : Hp}
end
end DD

namespace DD
open PySem PySem.Spec PyProof.Rows L2 Evl
section
variable {K : PySem.W.Frag} {X : Cx} {pos : Pos} {a b : Expr} {ta tb : TE} {fa fb : En → Option D}
def gCat0 : D → D → Option D
  | .tup i, .tup j => if i = [] ∧ j.length ≤ lim then some (.tup j) else none
  | _, _ => none
def gAddB (x y : D) : Option D := (gAddA x y).or (gCat0 x y)
theorem od_cat0 : OpD K (rCatA K) gCat0 := fun B H x y dx dy d hE h1 h2 e Q k => by
  unfold gCat0 at e
  split at e
  · rename_i i j
    obtain ⟨⟨rfl, hl⟩, rfl⟩ := oite e
    cases h1 with
    | tup s_ q =>
      have s := SqT.of (K := K) s_
      cases h2 with
      | tup s2_ q2 =>
        have s2 := SqT.of (K := K) s2_
        cases q
        refine ⟨_, _, _, _, rfl, rfl, ex_t hE s, ex_t hE s2, by rw [q2.len]; exact (by have := lim_le hl; simpa using this), fun _ => kp_flat k hE (.tup s2_ q2), fun h => absurd rfl h, fun h => absurd rfl h⟩
  · cases e
theorem de_addB (hK : X.K = K) (ha : DE X a ta fa) (hb : DE X b tb fb) : DE X (.BinOp a .Add b pos) (tOp (fun x y H Q => rAddA K x y H Q ∨ rCatA K x y H Q) ta tb) (d2 gAddB fa fb) := by
  subst hK
  exact de_bin ((op_addAll.or ZZ.op_catS).or op_catA) ((od_addAll.or od_catS).or od_cat0) ha hb
end
end DD

namespace DD
open PySem PySem.Spec PyProof.Rows L2 Evl
section
variable {K : PySem.W.Frag} {X : Cx} {pos : Pos} {tg a b c e : Expr} {ta tb tc te : TE} {fa fb fc f : En → Option D} {B B1 H B0 : Hp} {H0 : HB} {es : List Expr} {tr : TA} {fr : En → Option (List D)} {st : Stmt}
section
variable {κ : Type} [DecidableEq κ]
def lookG : List κ → List D → κ → Option D
  | j :: ks, d :: ds, k => if j = k then some d else lookG ks ds k
  | _, _, _ => none
def putG : List κ → List D → κ → D → List κ × List D
  | j :: ks, d :: ds, k, x => if j = k then (j :: ks, x :: ds) else (j :: (putG ks ds k x).1, d :: (putG ks ds k x).2)
  | _, _, k, x => ([k], [x])
theorem RpAll.putG {k : κ} {v : V} {d : D} (r : Rp K B v d) : ∀ {kvs : List (κ × V)} {ds : List D}, (kvs.map (·.1)).Nodup → RpAll K B (kvs.map (·.2)) ds → (putK kvs k v).map (·.1) = (DD.putG (kvs.map (·.1)) ds k d).1 ∧ RpAll K B ((putK kvs k v).map (·.2)) (DD.putG (kvs.map (·.1)) ds k d).2
  | [], _, _, h => by
    cases h
    exact ⟨rfl, .cons r .nil⟩
  | p :: m, _, nd, h => by
    rw [List.map_cons, List.nodup_cons] at nd
    cases h with
    | cons h1 h2 =>
      rename_i d1 ds1
      by_cases e : p.1 = k
      · have q1 : putK (p :: m) k v = (p.1, v) :: m := by
          unfold putK
          rw [if_pos (by rw [List.any_cons, decide_eq_true e, Bool.true_or])]
          rw [List.map_cons, if_pos e]
          congr 1
          have : ∀ kv ∈ m, (if kv.1 = k then (kv.1, v) else kv) = kv := fun kv hkv => by
            rw [if_neg]
            intro z
            exact nd.1 (by rw [e, ← z]; exact List.mem_map_of_mem hkv)
          rw [List.map_congr_left this]
          exact List.map_id _
        have q2 : DD.putG ((p :: m).map (·.1)) (d1 :: ds1) k d = (p.1 :: m.map (·.1), d :: ds1) := by
          show (if p.1 = k then _ else _) = _
          rw [if_pos e]
        rw [q1, q2]
        exact ⟨rfl, .cons r h2⟩
      · obtain ⟨i1, i2⟩ := RpAll.putG (k := k) r nd.2 h2
        have q1 : putK (p :: m) k v = p :: putK m k v := by
          unfold putK
          rw [List.any_cons, decide_eq_false e, Bool.false_or, List.map_cons, if_neg e]
          split <;> rfl
        have q2 : DD.putG ((p :: m).map (·.1)) (d1 :: ds1) k d = (p.1 :: (DD.putG (m.map (·.1)) ds1 k d).1, d1 :: (DD.putG (m.map (·.1)) ds1 k d).2) := by
          show (if p.1 = k then _ else _) = _
          rw [if_neg e]
        rw [q1, q2]
        exact ⟨by rw [List.map_cons, i1], .cons h1 i2⟩
end
end
end DD

namespace DD
open PySem PySem.Spec PyProof.Rows L2 Evl

section
variable {X : Cx} {pins : List (Addr × Obj)} {σ : L2.St} {H : Hp} {s : Shared}
end
end DD

namespace DD
open PySem PySem.Spec PyProof.Rows L2 Evl

def addI (l : List Int) (k : Int) : List Int := if k ∈ l then l else l ++ [k]
def dedI (ns : List Int) : List Int := ns.foldl addI []
def leI (a b : Int) : Bool := decide (a ≤ b)
def srtI (ns : List Int) : List Int := (dedI ns).mergeSort leI
section
variable {K : PySem.W.Frag} {X : Cx} {pos : Pos} {tg a b c e : Expr} {ta tb tc te : TE} {fa fb fc f : En → Option D} {B H : Hp} {tt tu : TT} {ft fu : En → Option Bool}
@[simp] def lSortS (g : En → Option (List Int)) : En → Option (List D) := fun en => (g en).bind fun ns => if (dedI ns).length < 64 then some ((srtI ns).map D.int) else none
end
end DD

namespace DD
open PySem PySem.Spec PyProof.Rows L2 Evl
section
variable {K : PySem.W.Frag} {X : Cx} {pos : Pos} {tg a b c e : Expr} {ta tb tc te : TE} {fa fb fc f : En → Option D} {B H : Hp} {tt tu : TT} {ft fu : En → Option Bool} {es : List Expr} {tr : TA} {fr : En → Option (List D)}
@[simp] def sPar (i j : Nat) (fr : En → Option (List D)) : En → Option Out := fun en => (fr en).bind fun
  | [d, e] => some (.nx ((en.set i (.dat d)).set j (.dat e)))
  | _ => none
end
end DD
namespace DD
open PySem PySem.Spec PyProof.Rows L2 Evl
section
variable {K : PySem.W.Frag} {X : Cx} {pos : Pos} {e : Expr} {te : TE} {f : En → Option D} {B H : Hp}
end
end DD
namespace DD
open PySem PySem.Spec PyProof.Rows L2 Evl
section
variable {K : PySem.W.Frag} {X : Cx} {pos : Pos} {a b : Expr} {ta tb : TE} {fa fb : En → Option D}
end
end DD
namespace DD
open PySem PySem.Spec PyProof.Rows L2 Evl
section
variable {K : PySem.W.Frag} {X : Cx} {pos : Pos} {tg a b c : Expr} {tr : TA} {fr : En → Option (List D)} {B H : Hp}
end
end DD

namespace DD
open PySem PySem.Spec PyProof.Rows L2 Evl
section
variable {K : PySem.W.Frag} {X : Cx} {pos : Pos} {tg a b c e : Expr} {ta tb tc te : TE} {fa fb fc f : En → Option D} {B H : Hp} {tt tu : TT} {ft fu : En → Option Bool} {es rest : List Expr} {tr : TA} {fr : En → Option (List D)}
def lRg1 (fa : En → Option D) : En → Option (List D) := fun en => (fa en).bind fun
  | .int n => if n.natAbs ≤ 100000 then some (rngD 0 1 n.toNat) else none
  | _ => none
theorem rp_range {lo : Int} {n : Nat} : RpAll K B ((List.range n).map fun i => V.int (lo + (i : Nat))) (rngD lo 1 n) := by
  unfold rngD
  have go : ∀ l : List Nat, RpAll K B (l.map fun i => V.int (lo + (i : Nat))) (l.map fun (i : Nat) => D.int (lo + (i : Int) * 1)) := fun l => by
    induction l with
    | nil => exact .nil
    | cons i l ih =>
      have e : lo + (i : Int) * 1 = lo + (i : Nat) := by omega
      refine .cons ?_ ih
      show Rp K B (V.int (lo + (i : Nat))) (D.int (lo + (i : Int) * 1))
      rw [e]
      exact .int _
  exact go _
theorem dl_listRg1 {p p2 pos2 : Pos} (hc : X.calm = true) (hg : Gl X "list") (hm : X.mg "list" = none) (hg2 : Gl X "range") (hm2 : X.mg "range" = none) (ha : DE X a ta fa)
    (hs : starEach [a] X.env = (false, eval a X.env) :: starEach [] X.env := by rfl) (hs2 : starEach [.Call (.Name "range" p2) [a] [] pos2] X.env = (false, eval (.Call (.Name "range" p2) [a] [] pos2) X.env) :: starEach [] X.env := by rfl) :
    DL X (.Call (.Name "list" p) [.Call (.Name "range" p2) [a] [] pos2] [] pos) (tLstRg (tRg1 ta)) (lRg1 fa) := ⟨pe_listRg hc hg hm (prg_1 hg2 hm2 ha.p hs) hs2, fun B0 H0 B H σ en ds hE q Q k => by
  obtain ⟨d, e1, q⟩ := obind q
  refine ha.c B0 H0 B H σ en d hE e1 _ fun v B1 H1 x1 r => ?_
  split at q
  · rename_i n
    obtain ⟨h, rfl⟩ := oite q
    cases r
    refine ⟨n, rfl, ⟨by omega, by omega, by omega, by omega, by omega⟩, fun z hz => ?_⟩
    have e : rgV 0 n = (List.range n.toNat).map fun i => V.int (0 + (i : Nat)) := by
      unfold rgV
      rw [Int.sub_zero]
    rw [e]
    exact k z _ B1 _ (x1.trans (Ext.newM x1.bh hz)) (ext_fresh x1 hz) (fresh_back x1.bh hz) upd_same rp_range
  · cases q⟩
theorem RpAll.last : ∀ {vs : List V} {ds : List D} {d : D}, RpAll K B vs ds → ds.getLast? = some d → ∃ v, vs[vs.length - 1]? = some v ∧ Rp K B v d := fun {vs ds d} r e => by
  rw [List.getLast?_eq_getElem?] at e
  obtain ⟨v, h1, h2⟩ := r.get _ e
  exact ⟨v, by rw [r.len]; exact h1, h2⟩
theorem pyMin_int : ∀ (r : List Int) (i : Int), PySem.W.minD (.int i) (r.map PyData.int) = .int (r.foldl min i)
  | [], i => rfl
  | j :: r, i => by
    have ih := pyMin_int r (min i j)
    show PySem.W.minD (if PySem.W.dataLt (.int j) (.int i) = true then .int j else .int i) (r.map PyData.int) = _
    rw [PySem.W.dataLt_int, List.foldl_cons, ← ih]
    by_cases h : j < i
    · rw [decide_eq_true h, if_pos rfl, show min i j = j by omega]
    · rw [decide_eq_false h, if_neg Bool.false_ne_true, show min i j = i by omega]
open Classical in
theorem EnOk.thawT {B0 : Hp} {H0 : HB} {σ : L2.St} {en : En} (h : EnOk K B0 H0 B H σ en) : ∃ B1, EnOk K B1 ⟨H, H0.rt⟩ B1 H σ (en.map Sl.thaw) ∧
    ∀ B2 H2, Ext B1 H B2 H2 → ∃ B', Ext B H B' H2 ∧ ∀ (q : Addr) (xs : List V), B2 q = some (.tup xs) → B' q = some (.tup xs) := by
  obtain ⟨own, B1, hO, hN, what, hB, hH, hE⟩ := h.thawX
  refine ⟨B1, hE, fun B2 H2 x => ?_⟩
  refine ⟨fun q => if own q then B q else B2 q, ⟨fun q o e => ?_, fun q o e => ?_, x.hh, fun q hq => ?_⟩, fun q xs e => ?_⟩
  · show (if own q then B q else B2 q) = some o
    by_cases hq : own q
    · rw [if_pos hq]; exact e
    · rw [if_neg hq]; exact x.bb _ _ (hB _ _ e)
  · have e : (if own q then B q else B2 q) = some o := e
    by_cases hq : own q
    · rw [if_pos hq] at e
      exact x.hh _ _ (h.bh _ _ e)
    · rw [if_neg hq] at e
      exact x.bh _ _ e
  · show (if own q then B q else B2 q) = B q
    by_cases hq' : own q
    · rw [if_pos hq']
    · rw [if_neg hq', x.st q hq, hN q hq']
  · show (if own q then B q else B2 q) = some (.tup xs)
    by_cases hq : own q
    · have m := (what q hq).2
      cases c : H q with
      | none => exact absurd c m.1
      | some o =>
        have z := x.bb _ _ ((hO q hq).trans c)
        rw [e] at z
        exact absurd (c.trans z.symm) (m.2 xs)
    · rw [if_neg hq]; exact e
end
end DD
namespace DD
open PySem PySem.Spec PyProof.Rows L2 Evl
section
variable {K : PySem.W.Frag} {X : Cx} {pos : Pos} {a b : Expr} {ta tb : TE} {fa fb : En → Option D}
def gInA (x y : D) : Option D := (gInL x y).or (gInT x y)
def rInA (K : PySem.W.Frag) : R2 := fun x y H Q => rInD K x y H Q ∨ rIn K false x y H Q
theorem de_inA {n : Nat} (hK : X.K = K) (hr : Room n X.A) (ha : DE X a ta fa) (hb : DE X b tb fb) (hm : behindInMarks .In b = false := by rfl) : DE X (.Compare a [.In] [b] pos) (tOp (rInA K) ta tb) (d2 gInA fa fb) := by
  subst hK
  exact de_cmp ((op_inD (by have := hr.un; omega)).or op_in_seq) (od_inL.or od_inT) ha hb hm
end
end DD

namespace ZK
open PySem PySem.Spec PyProof.Rows L2 ZZ
def SeqAt : Bool → Heap → Addr → Array Value → Prop
  | true, h, t, its => h.IsList t its
  | false, h, t, its => h.IsTuple t its
def SeqIt : Bool → Heap → Addr → Addr → Nat → Prop
  | true, h, it, t, i => h.IsListIter it t i
  | false, h, it, t, i => h.IsTupleIter it t i
theorem SeqAt.at {k : Bool} {h h' : Heap} {t : Addr} {its : Array Value} (x : SeqAt k h t its) (e : ∀ o, h.get? t = some o → h'.get? t = some o) : SeqAt k h' t its := by
  cases k
  · exact Heap.IsTuple.at x e
  · exact Heap.IsList.at x e
theorem SeqIt.at {k : Bool} {h h' : Heap} {it t : Addr} {i : Nat} (x : SeqIt k h it t i) (e : ∀ o, h.get? it = some o → h'.get? it = some o) : SeqIt k h' it t i := by
  cases k
  · exact Heap.IsTupleIter.at x e
  · exact Heap.IsListIter.at x e
section
variable {prog : Program} {w : World} {A : Around} {E : Value → Shared → Prop}
structure Two (z TI TO i1 i2 l1 l2 : Addr) : Prop where
  a1 : TI ≠ z
  a2 : TO ≠ z
  a3 : i1 ≠ z
  a4 : i2 ≠ z
  b1 : TI ≠ TO
  b2 : TO ≠ i1
  b3 : TO ≠ i2
  b4 : TI ≠ i1
  b5 : TI ≠ i2
  c1 : i1 ≠ i2
  d1 : l1 ≠ z
  d2 : l1 ≠ TO
  d3 : l2 ≠ z
  d4 : l2 ≠ TO
  d5 : l2 ≠ i1
end
section
variable {prog : Program} {w : World} {A : Around} {E : Value → Shared → Prop} {s : Shared}
end
end ZK

namespace DD
open PySem PySem.Spec PyProof.Rows L2 Evl
section
variable {K : PySem.W.Frag} {X : Cx} {pos : Pos} {a b : Expr} {fr : En → Option (List D)} {tr : TA} {B H : Hp}
end
end DD

namespace DD
open PySem PySem.Spec PyProof.Rows L2 Evl
section
variable {K : PySem.W.Frag} {X : Cx} {pos : Pos} {tg a b c e : Expr} {ta tb tc te : TE} {fa fb fc f : En → Option D} {B B1 H B0 : Hp} {H0 : HB}
@[simp] def gLenT : List D → Option D
  | [.dit ks _] => some (.int ks.length)
  | _ => none
@[simp] def dOwnAt (i : Nat) (fj : En → Option D) : En → Option D := fun en => (fj en).bind fun j => match j, en[i]? with
  | .int j, some (.own ds) => atI ds j
  | _, _ => none
end
end DD

namespace SUP
open PySem PySem.Spec PyProof.Rows L2 NdefX
structure SupC (P : Program) (K : PySem.W.Frag) (mg : Str → Option Value) (C f cc cda : Addr) (qual : Str) (params : Arguments) (body : List Stmt) (scope : Scope) (fd : FuncData) : Prop where
  oex : OexC K C
  fn : ∃ (oc : Value) (od : Option Addr) (doc pm ct : Value) (an : Option Addr) (osl : Array (Option Value)), fd = PySem.W.ksFn "__init__" qual params body scope .none .none doc pm an (.ref cda) ct cc ∧ K.lookup f = some ⟨oc, od, .func fd, osl⟩
  code : PySem.W.codeIn K (.ref cda) qual = true
  cob : ∃ (ccl : Value) (cdd : Option Addr) (vs : Array Value) (ccs : Array (Option Value)) (file : Str) (tf : Tok), K.lookup cda = some ⟨ccl, cdd, .fields vs, ccs⟩ ∧ vs[2]? = some (.str file tf) ∧ ((P.main.file : Str) == file) = true
  cell : ∃ (cl : Value) (cld : Option Addr) (csl : Array (Option Value)), K.lookup cc = some ⟨cl, cld, .cell (some (.ref C)), csl⟩
  self : PySem.W.mroIn K C (.ref C) = some true
  nosup : mg "super" = none
  sup : PySem.W.ks_superIn K C C "__init__" = some (some (.builtin "ValueError.__init__"))
  sub : PySem.W.subIn K (.ref C) (.type "ValueError") = some true
  any : PySem.W.nsIn K PySem.cStatics "thirdparty.any" = some none
  top : (P.main.scope.names.lookup ("super" : Str)).isSome = false
section
variable {prog : Program} {w : World} {A : Around} {E : Value → Shared → Prop} {h : Heap} {g : Array GenState} {d : Drawn} {t : Nat} {os : OsState}
variable {nm q : Str} {C N : Addr} {bs bm bmB : List Value} {hdct : Bool} {sn : List Str} {sub : List Value} {ab : Bool} {col : Option Bool} {dd : Option Addr} {k0 k1 k2 k3 k5 : Option Value} {newId initId : String}
end
section
variable {CX : CXT} {P : Program} {w : World} {K : PySem.W.Frag} {mg : Str → Option Value} {base : Heap} {C f cc cda : Addr} {qual : Str} {params : Arguments} {body rest : List Stmt} {scope : Scope} {fd : FuncData} {N ps : List Str} {k : Nat} {sp : Sp} {e : Expr} {p0 p1 p2 p3 p4 : Pos} {ar : Arg}
abbrev F0 (qual : Str) (params : Arguments) (body : List Stmt) (scope : Scope) (cc cda : Addr) : NF := ⟨"__init__", qual, params, body, scope, [("__class__", cc)], cda⟩
end
end SUP

namespace SUP
open PySem PySem.Spec PyProof.Rows L2 NdefX
def Fmt (x : V) : Prop := (∃ z : Str, x = .str z ∧ z.length ≤ 1000) ∨ ∃ i : Int, x = .int i ∧ i.natAbs < 10 ^ 15
def spI (C : Addr) (names : List Str) : Sp := fun vs H Q _ => ∃ (a : Addr) (xs : List V), vs = .ref a :: xs ∧ xs.length = names.length ∧ (∀ x ∈ xs, Fmt x) ∧ H a = some (exo a C none) ∧
  ∀ d, H d = none → d ≠ a → Q .non (upd (upd H d (exd d ((names.zip xs).reverse))) a (exo a C (some d)))
section
variable {X : Cx} {e : Expr} {te : TE} {σ : L2.St} {H : Hp}
end
section
variable {P : Program} {w : World} {K : PySem.W.Frag} {mg : Str → Option Value} {base : Heap} {C f cc cda : Addr} {qual : Str} {params : Arguments} {scope : Scope} {fd : FuncData} {p0 p1 p2 p3 p4 q1 q2 q3 q4 r1 r2 r3 r4 j1 j2 j3 j4 j5 : Pos} {n1 n2 : Nat} {ar : Arg}
end
end SUP

namespace DD
open PySem PySem.Spec PyProof.Rows L2 Evl SUP
def excD (c : Str) (ns : List Str) (fs : List D) : D := .tup (.dic (.inr c :: ns.map Sum.inr) [] :: fs)
def excOf : D → Option (Str × List Str × List D)
  | .tup (.dic (.inr c :: ks) [] :: fs) => (keyStrs ks).map fun ns => (c, ns, fs)
  | _ => none
section
variable {K : PySem.W.Frag} {X : Cx} {pos : Pos} {tg a b c e : Expr} {ta tb tc te : TE} {fa fb fc f : En → Option D} {B B1 H H1 B0 : Hp} {H0 : HB} {tt tu : TT} {ft fu : En → Option Bool} {es rest : List Expr} {tr : TA} {fr : En → Option (List D)}
  {st : Stmt} {sts : List Stmt} {t u : TS} {g h : En → Option Out} {Dn Dn' : Ends} {o : Out} {W : XK}
def XW (K : PySem.W.Frag) (B H : Hp) (d : D) (E : XK) : Prop := ∀ c ns fs, excOf d = some (c, ns, fs) → ∀ C, PySem.W.nsIn K mainGlobals c = some (some (.ref C)) →
  ∀ B' H' xs dA, Ext B H B' H' → H' dA = some (.xd ((ns.zip xs).reverse)) → RpAll K B' xs fs → E (.ref C) (some dA) H'
theorem XW.ext {B' H' : Hp} {d : D} {E : XK} (k : XW K B H d E) (x : Ext B H B' H') : XW K B' H' d E := fun c ns fs h C hC B2 H2 xs dA y => k c ns fs h C hC B2 H2 xs dA (x.trans y)
def XOk (K : PySem.W.Frag) (B0 : Hp) (H0 : HB) (W : XK) : Out → Prop
  | .rt d => XW K B0 H0 d W
  | .rm t en' => ∀ d c ns fs, t = .lf d → excOf d = some (c, ns, fs) → ∀ C, PySem.W.nsIn K mainGlobals c = some (some (.ref C)) →
      ∀ σ' B' H' xs dA, EnOk K B0 H0 B' H' σ' en' → H' dA = some (.xd ((ns.zip xs).reverse)) → RpAll K B' xs fs → W (.ref C) (some dA) H'
  | _ => True
def CSX (K : PySem.W.Frag) (W : XK) (ts : TS) (g : En → Option Out) : Prop := ∀ B0 H0 B H σ en o, EnOk K B0 H0 B H σ en → g en = some o → ∀ Dn : Ends, OutOk K B0 H0 B Dn o → XOk K B0 H0 W o → ts Dn σ H
structure DSX (X : Cx) (W : XK) (st : Stmt) (ts : TS) (g : En → Option Out) : Prop where
  p : PS X st ts
  c : CSX X.K W ts g
structure DSXs (X : Cx) (W : XK) (st : List Stmt) (ts : TS) (g : En → Option Out) : Prop where
  p : PSs X st ts
  c : CSX X.K W ts g
def CEX (K : PySem.W.Frag) (W : XK) (te : TE) (f : En → Option D) : Prop := ∀ B0 H0 B H σ en d, EnOk K B0 H0 B H σ en → f en = some d → ∀ Q : VK, Kp K B H d Q → XW K B H d W → te σ H Q
structure DEX (X : Cx) (W : XK) (e : Expr) (te : TE) (f : En → Option D) : Prop where
  p : PE X e te
  c : CEX X.K W te f
theorem DS.x (h : DS X st t g) : DSX X W st t g := ⟨h.p, fun B0 H0 B H σ en o hE e Dn k _ => h.c B0 H0 B H σ en o hE e Dn k⟩
theorem DSs.x (h : DSs X sts t g) : DSXs X W sts t g := ⟨h.p, fun B0 H0 B H σ en o hE e Dn k _ => h.c B0 H0 B H σ en o hE e Dn k⟩
theorem DSX.frz (i : Nat) (h1 : DSX X W st t g) : DSX X W st t (fun en => g (DD.frz i en)) := ⟨h1.p, fun B0 H0 B H σ en o hE e Dn k kx => by
  obtain ⟨B', hx, hE'⟩ := hE.frz i
  exact h1.c B0 H0 B' H σ _ o hE' e Dn (k.up hx) kx⟩
theorem DSXs.frz (i : Nat) (h1 : DSXs X W sts t g) : DSXs X W sts t (fun en => g (DD.frz i en)) := ⟨h1.p, fun B0 H0 B H σ en o hE e Dn k kx => by
  obtain ⟨B', hx, hE'⟩ := hE.frz i
  exact h1.c B0 H0 B' H σ _ o hE' e Dn (k.up hx) kx⟩
@[simp] def fmtD : D → Bool
  | .str x => decide (x.length ≤ 1000)
  | .int i => decide (i.natAbs < 10 ^ 15)
  | _ => false
structure ExcT (P : Program) (w : World) (K : PySem.W.Frag) (mg : Str → Option Value) (base : Heap) (c : Str) (names : List Str) (C f : Addr) (fd : FuncData) : Prop where
  ns : PySem.W.nsIn K mainGlobals c = some (some (.ref C))
  g : mg c = some (.ref C)
  oex : OexC K C
  iC : PySem.W.findIn K (.ref C) "__init__" = some (some (.ref f))
  tI : PySem.W.typeIn K (.ref f) = some (.type "function")
  ini : FnOk P w K mg base CX0 1 f fd (("self" : Str) :: names) (spI C names)
  b : Binds K fd (("self" : Str) :: names) []
  xf : XfC K C
  no : ∀ n ∈ names, PySem.W.findIn K (.ref C) n = some none
  exm : PySem.W.exmOne K (.ref C) (.ref C) = some true
@[simp] def sRaise (c : Str) (ns : List Str) (fr : En → Option (List D)) : En → Option Out := fun en => (fr en).bind fun ds => if ds.length = ns.length ∧ ds.all fmtD = true then some (.rt (excD c ns ds)) else none
section
variable {F : List D → Option D} {k : Nat} {f : Addr} {fd : FuncData} {ps : List Str} {x : Str} {p : Pos}
end
section
variable {F : List D → Option D} {k : Nat} {f C fI : Addr} {fd fdI : FuncData} {ps names : List Str} {x n c fl fl2 : Str} {p q1 q2 q3 q4 q5 pos1 pos2 np pos' post : Pos} {i j j2 : Nat}
end
end
end DD

namespace DD
open PySem PySem.Spec PyProof.Rows L2 Evl
def leD (d e : D) : Bool := PySem.W.dataLe false py d e
def shpT : D → Bool
  | .tup (_ :: _) => true
  | _ => false
def shpO : D → Bool
  | .int _ => true
  | .str _ => true
  | .bl _ => true
  | .lst _ => true
  | _ => false
def srtOk (ds : List D) : Bool := deepAll 58 ds && ((ds.all shpT || ds.all shpO) && ds.all fun d => ds.all fun e => PySem.W.alike (py d) (py e))
def lSrt (fa : En → Option D) : En → Option (List D) := fun en => (fa en).bind fun
  | .lst ds => if srtOk ds = true then some (ds.mergeSort leD) else none
  | _ => none
section
variable {K : PySem.W.Frag} {X : Cx} {pos : Pos} {a : Expr} {ta : TE} {fa : En → Option D} {B H : Hp}
theorem deepAll_mem {n : Nat} : ∀ {ds : List D}, deepAll n ds = true → ∀ d ∈ ds, deep n d = true
  | [], _, _, h => nomatch h
  | e :: ds, h, d, hd => by
    rw [deepAll, Bool.and_eq_true] at h
    rcases List.mem_cons.mp hd with rfl | hd
    · exact h.1
    · exact deepAll_mem h.2 d hd
theorem each_vals {R : Value → V × D → Prop} : ∀ {bs : List (V × D)} {us : List Value}, Vals (bs.map (·.1)) us → (∀ b ∈ bs, ∀ u, RelV b.1 u → R u b) → PySem.W.EachIs R us bs
  | [], _, h, _ => by
    cases h
    exact .nil
  | b :: bs, _, h, f => by
    cases h with
    | cons h1 h2 => exact .cons (f b List.mem_cons_self _ h1) (each_vals h2 fun c hc => f c (List.mem_cons_of_mem _ hc))
theorem vals_each : ∀ {bs : List (V × D)} {us : List Value}, PySem.W.EachIs (fun u (b : V × D) => RelV b.1 u) us bs → Vals (bs.map (·.1)) us
  | _, _, .nil => .nil
  | _, _, .cons h t => .cons h (vals_each t)
theorem rp_zip : ∀ {vs : List V} {ds : List D}, RpAll K B vs ds → (vs.zip ds).map (·.1) = vs ∧ (vs.zip ds).map (·.2) = ds ∧ ∀ b ∈ vs.zip ds, Rp K B b.1 b.2
  | _, _, .nil => ⟨rfl, rfl, fun _ h => nomatch h⟩
  | _, _, .cons r t => by
    obtain ⟨h1, h2, h3⟩ := rp_zip t
    refine ⟨by rw [List.zip_cons_cons, List.map_cons, h1], by rw [List.zip_cons_cons, List.map_cons, h2], fun b hb => ?_⟩
    rw [List.zip_cons_cons] at hb
    rcases List.mem_cons.mp hb with rfl | hb
    · exact r
    · exact h3 b hb
theorem zip_rp : ∀ (zs : List (V × D)), (∀ b ∈ zs, Rp K B b.1 b.2) → RpAll K B (zs.map (·.1)) (zs.map (·.2))
  | [], _ => .nil
  | z :: zs, h => .cons (h z List.mem_cons_self) (zip_rp zs fun b hb => h b (List.mem_cons_of_mem _ hb))
theorem srt_parts {ds : List D} (h : srtOk ds = true) : deepAll 58 ds = true ∧ PySem.W.AllAlike (ds.map py) ∧ PySem.W.Sortable (ds.map py) := by
  unfold srtOk at h
  rw [Bool.and_eq_true, Bool.and_eq_true, Bool.or_eq_true] at h
  obtain ⟨h1, h2, h3⟩ := h
  refine ⟨h1, fun x hx y hy => ?_, ?_⟩
  · obtain ⟨d, hd, rfl⟩ := List.mem_map.mp hx
    obtain ⟨e, he, rfl⟩ := List.mem_map.mp hy
    rw [List.all_eq_true] at h3
    have z := h3 d hd
    rw [List.all_eq_true] at z
    exact z e he
  · rcases h2 with h2 | h2
    · refine .inl fun x hx => ?_
      obtain ⟨d, hd, rfl⟩ := List.mem_map.mp hx
      rw [List.all_eq_true] at h2
      have z := h2 d hd
      unfold shpT at z
      split at z
      · rename_i d0 r
        exact ⟨py d0, pyAll r, by simp [py, pyAll]⟩
      · cases z
    · refine .inr fun x hx => ?_
      obtain ⟨d, hd, rfl⟩ := List.mem_map.mp hx
      rw [List.all_eq_true] at h2
      have z := h2 d hd
      unfold shpO at z
      split at z
      · exact ⟨fun q => by simp [py] at q, fun xs q => by simp [py] at q⟩
      · exact ⟨fun q => by simp [py] at q, fun xs q => by simp [py] at q⟩
      · exact ⟨fun q => by simp [py] at q, fun xs q => by simp [py] at q⟩
      · exact ⟨fun q => by simp [py] at q, fun xs q => by simp [py] at q⟩
      · cases z
def rSrt (K : PySem.W.Frag) : List V → Hp → VK → Prop := fun vs H Q => ∃ (a : Addr) (bs : List (V × D)), vs = [V.ref a] ∧ SqL K H a (bs.map (·.1)) ∧ (∀ b ∈ bs, Dp K H b.1 (py b.2)) ∧ srtOk (bs.map (·.2)) = true ∧
  ∀ p, H p = none → Q (.ref p) (upd H p (.lst ((bs.mergeSort fun x y => leD x.2 y.2).map (·.1))))
theorem cr_srt (hu : X.A.units + 64 < cLine) : CallR X (.builtin "sorted") (rSrt X.K) := by
  intro pins s σ H vs us Q I r h
  obtain ⟨a, bs, rfl, hs, hd, ok, q⟩ := h
  obtain ⟨its, rv, hl, hz⟩ := I.list hs
  rw [Vals.ref1 r]
  obtain ⟨k1, k2, k3⟩ := srt_parts ok
  have e : PySem.W.EachIs (fun v (b : V × D) => RelV b.1 v) its bs := each_vals rv fun b _ u h => h
  have er : PySem.W.EachIs (fun v (b : V × D) => ∃ as, Reads s.heap v (py b.2) as) its bs := each_vals rv fun b hb u h => Dp.reads I _ _ _ (hd b hb) h
  have em : bs.map (fun b : V × D => py b.2) = (bs.map (·.2)).map py := by rw [List.map_map] <;> rfl
  refine PySem.W.sorted_data (R := fun v (b : V × D) => RelV b.1 v) (enc := fun b : V × D => py b.2) hl.isList e er (by rw [em]; exact k2) (by rw [em]; exact k3) (by rw [List.length_map] at hz; exact hz) (fun b hb => ?_) fun out ho eo => ?_
  · have z := (deep_up ((deepAll_mem k1) b.2 (List.mem_map_of_mem hb))).2
    omega
  obtain ⟨ep, he'⟩ := PyProof.Rows.sortedAll_at s.heap its out.toArray
  have hlen : ((bs.mergeSort fun x y => leD x.2 y.2).map (·.1)).length ≤ sizeLine := by
    rw [List.length_map, List.length_mergeSort]
    rw [List.length_map] at hz
    exact hz
  exact ⟨.ref _, upd H (s.heap.objs.size + 1) (.lst ((bs.mergeSort fun x y => leD x.2 y.2).map (·.1))), I.laid (t' := s.toks) (fun _ _ => PyProof.Rows.sortedAll_old) (Nat.le_succ _) ⟨hlen, out, ep, vals_each eo, he'⟩, rfl, q _ (I.hok.fresh (Nat.le_succ _))⟩
theorem dl_srt {n : Nat} {p : Pos} (hK : X.K = K) (hr : Room n X.A) (hg : Gl X "sorted") (hm : X.mg "sorted" = none) (ha : DE X a ta fa) (hs : starEach [a] X.env = (false, eval a X.env) :: starEach [] X.env := by rfl) (hpl : (backTo pos (starEach [] X.env)).any (·.1) = false := by rfl) :
    DL X (.Call (.Name "sorted" p) [a] [] pos) (tCB (rSrt K) (tCons ta tNil)) (lSrt fa) := by
  subst hK
  exact ⟨pe_callB (cr_srt hr.units) hg hm (by decide +kernel) (pa_cons ha.p pa_nil hs) (by decide) (by decide) hs hpl, fun B0 H0 B H σ en ds hE e Q k => by
    obtain ⟨x, e1, e⟩ := obind e
    refine ha.c B0 H0 B H σ en x hE e1 _ fun v B1 H1 x1 r => ?_
    split at e
    · rename_i ds0
      obtain ⟨ok, rfl⟩ := oite e
      cases r with
      | lst s q =>
        rename_i xs
        obtain ⟨z1, z2, z3⟩ := rp_zip q
        have dp := deepAll_mem (srt_parts ok).1
        refine ⟨_, xs.zip ds0, rfl, by rw [z1]; exact ex_l x1.bh s, fun b hb => Rp.dp b.2 58 b.1 (dp b.2 (by rw [← z2]; exact List.mem_map_of_mem hb)) ((z3 b hb).up x1.bh), by rw [z2]; exact ok, fun p hn => ?_⟩
        have em : ((xs.zip ds0).mergeSort fun x y => leD x.2 y.2).map (·.2) = ds0.mergeSort leD := by
          rw [List.map_mergeSort (s := leD) (f := fun z : V × D => z.2) (fun _ _ _ _ => rfl), z2]
        have rr : RpAll X.K B1 (((xs.zip ds0).mergeSort fun x y => leD x.2 y.2).map (·.1)) (ds0.mergeSort leD) := by
          rw [← em]
          exact zip_rp _ fun b hb => z3 b (List.mem_mergeSort.mp hb)
        exact k p _ B1 _ (x1.trans (Ext.newM x1.bh hn)) (ext_fresh x1 hn) (fresh_back x1.bh hn) upd_same rr
    · cases e⟩
end
end DD

namespace DD
open PySem PySem.Spec PyProof.Rows L2 Evl
section
variable {K : PySem.W.Frag} {X : Cx} {pos : Pos} {a : Expr} {ta : TE} {fa : En → Option D}
end
end DD

namespace DD
open PySem PySem.Spec PyProof.Rows L2 Evl
section
variable {K : PySem.W.Frag} {X : Cx} {pos : Pos} {e : Expr} {es : List Expr} {tr : TA} {fr : En → Option (List D)}
end
end DD

namespace DD
open PySem PySem.Spec PyProof.Rows L2 Evl
section
variable {K : PySem.W.Frag} {X : Cx} {pos : Pos} {a b : Expr} {ta tb : TE} {fa fb : En → Option D}
end
end DD

namespace DD
open PySem PySem.Spec PyProof.Rows L2 Evl
def minO : List Int → D
  | [] => .non
  | i :: r => .int (r.foldl min i)
def minOV : List Int → V
  | [] => .non
  | i :: r => .int (r.foldl min i)
def rMinDefN (K : PySem.W.Frag) : List V → List V → Hp → VK → Prop := fun vs zs H Q => ∃ (a : Addr) (ns : List Int), vs = [V.ref a] ∧ zs = [.non] ∧ SqL K H a (ns.map V.int) ∧ Q (minOV ns) H
theorem cr_minDefN {X : Cx} (hc : X.calm = true) (hu : X.A.units + 64 < cLine) : CallRK X (.builtin "min") [Str.ofString "default"] (rMinDefN X.K) := by
  intro pins s σ H vs zs us ws Q I r rz h
  obtain ⟨a, ns, rfl, rfl, hs, q⟩ := h
  obtain ⟨its, rv, hl, _⟩ := I.list hs
  obtain rfl := Vals.ref1 r
  obtain ⟨w1, rfl, t⟩ := vals1 rz
  cases t
  have dep : ∀ ns : List Int, PyData.depthAll (ns.map PyData.int) ≤ 1 := fun ns => by
    induction ns with
    | nil => simp [PyData.depthAll]
    | cons n ns ih =>
      rw [List.map_cons]
      simp only [PyData.depthAll, PyData.depth]
      omega
  refine PySem.W.min_list_default (I.ok.hd hc) hl.isList (reads_ints rv) ⟨fun x hx y hy => ?_, fun x hx => ?_⟩ (by have := dep ns; omega) (fun e h' tk hk => ?_) (fun y ys i v h' tk bs e hv rd hk => ?_)
  · obtain ⟨i, _, rfl⟩ := List.mem_map.mp hx
    obtain ⟨j, _, rfl⟩ := List.mem_map.mp hy
    rfl
  · obtain ⟨i, _, rfl⟩ := List.mem_map.mp hx
    exact fun z => nomatch z
  · have : ns = [] := by
      cases ns with
      | nil => rfl
      | cons => cases e
    subst this
    exact ⟨.non, H, I.kept hk, rfl, q⟩
  · cases ns with
    | nil => cases e
    | cons m ms =>
      rw [List.map_cons] at e
      obtain ⟨rfl, rfl⟩ := List.cons.inj e
      rw [pyMin_int] at rd
      cases rd with
      | int _ t => exact ⟨.int _, H, I.kept hk, ⟨t, rfl⟩, q⟩
def dMinDefN (fa : En → Option D) : En → Option D := fun en => (fa en).bind fun
  | .lst ds => (intsOf ds).map minO
  | _ => none
section
variable {K : PySem.W.Frag} {X : Cx} {pos : Pos} {a b : Expr} {ta tb : TE} {fa fb : En → Option D}
theorem rp_minO {B : Hp} (ns : List Int) : Rp K B (minOV ns) (minO ns) := by
  cases ns with
  | nil => exact .non
  | cons i r => exact .int _
theorem de_minDefN {k : Nat} {p pk : Pos} {nm : Option Str} (hK : X.K = K) (hc : X.calm = true) (hr : Room k X.A) (hg : Gl X "min") (hm : X.mg "min" = none) (ha : DE X a ta fa) (hb : PE X b (tC .non))
    (he : backTo pos (starEach (a :: []) X.env) = (false, eval a X.env) :: backTo pos (starEach [] X.env) := by rfl) (hs : starEach [a] X.env = (false, eval a X.env) :: starEach [] X.env := by rfl) (hpl : (backTo pos (starEach (a :: []) X.env)).any (·.1) = false := by rfl)
    (hall : (backToKw pos (keywordEach [⟨nm, b, pk⟩] X.env)).all (·.1.isSome) = true := by rfl) (hnone : (backToKw pos (keywordEach [⟨nm, b, pk⟩] X.env)).any (·.1.isNone) = false := by rfl) (hks : (backToKw pos (keywordEach [⟨nm, b, pk⟩] X.env)).filterMap (·.1) = [Str.ofString "default"] := by rfl)
    (hkc : PK X [⟨nm, b, pk⟩] (tCons (tC .non) tNil)) :
    DE X (.Call (.Name "min" p) [a] [⟨nm, b, pk⟩] pos) (tCKw (rMinDefN K) (tCons ta tNil) (tCons (tC .non) tNil)) (dMinDefN fa) := by
  subst hK
  exact ⟨pe_callBK (cr_minDefN hc hr.units) hg hm (by decide +kernel) (pa_cons ha.p pa_nil hs) hkc (by decide) (by decide) he hpl hall hnone hks, fun B0 H0 B H σ en d hE e Q k => by
    obtain ⟨x, e1, e⟩ := obind e
    refine ha.c B0 H0 B H σ en x hE e1 _ fun v B1 H1 x1 r => ?_
    split at e
    · obtain ⟨ns, e2, rfl⟩ := omap e
      cases r with
      | lst s q =>
        have := q.ints e2
        subst this
        exact ⟨_, ns, rfl, rfl, ex_l x1.bh s, k _ B1 H1 x1 (rp_minO ns)⟩
    · cases e⟩
def aSnoc (n : Nat) (fr : En → Option (List D)) (fb : En → Option D) : En → Option (List D) := fun en => (fr en).bind fun ds => (fb en).bind fun d => if ds.length = n then some (ds ++ [d]) else none
def aPlus (fr : En → Option (List D)) (dd : List D) : En → Option (List D) := fun en => (fr en).map fun ds => ds ++ dd
theorem rp_app {B : Hp} {zs : List V} {ys : List D} (h : RpAll K B zs ys) : ∀ {vs : List V} {ds : List D}, RpAll K B vs ds → RpAll K B (vs ++ zs) (ds ++ ys)
  | _, _, .nil => h
  | _, _, .cons a r => .cons a (rp_app h r)
theorem rp_len {B : Hp} : ∀ {vs : List V} {ds : List D}, RpAll K B vs ds → vs.length = ds.length
  | _, _, .nil => rfl
  | _, _, .cons _ r => congrArg (· + 1) (rp_len r)
theorem rp_up {B B' : Hp} (h : Ex B B') : ∀ {vs : List V} {ds : List D}, RpAll K B vs ds → RpAll K B' vs ds
  | _, _, .nil => .nil
  | _, _, .cons a r => .cons (a.up h) (rp_up h r)
theorem de_callD {F : List D → Option D} {k : Nat} {f : Addr} {fd : FuncData} {ps : List Str} {x : Str} {p : Pos} {e : Expr} {es : List Expr} {tr : TA} {fr : En → Option (List D)} {dvs : List V} {dv : List Value} {dd : List D} (G : FnOk X.prog X.w X.K X.mg X.base CX0 k f fd ps (spD X.K F)) (hr : Room k X.A) (hg : Gl X x) (hm : X.mg x = some (.ref f)) (hk : PySem.W.keepIn X.K (.ref f) = true) (hb : Binds X.K fd ps dv) (hv : Vals dvs dv) (hd : ∀ B, RpAll X.K B dvs dd)
    (ha : DA X (e :: es) tr fr) (hdb : (x == ("__debug__" : Str)) = false := by decide) (he : starEach (e :: es) X.env = (false, eval e X.env) :: starEach es X.env := by rfl) (hpl : (backTo pos (starEach es X.env)).any (·.1) = false := by rfl) :
    DE X (.Call (.Name x p) (e :: es) [] pos) (tCall (spD X.K F) dvs E0 tr) (dCall F (aPlus fr dd)) := ⟨pe_call G hr hg hm hk hb hv pass0 ha.p hdb he hpl, fun B0 H0 B H σ en d hE e Q k => by
  obtain ⟨ds', e1, e⟩ := obind e
  obtain ⟨ds, e2, rfl⟩ := omap e1
  refine ha.c B0 H0 B H σ en ds hE e2 _ fun vs B1 H1 x r => ?_
  exact ⟨B1, ds ++ dd, d, x.bh, rp_app (hd B1) r, e, fun v B2 H2 y r2 => k v B2 H2 (x.trans y) r2⟩⟩
theorem de_callN {F : List D → Option D} {k n : Nat} {f : Addr} {fd : FuncData} {ps : List Str} {x kn : Str} {p pk : Pos} {nm : Option Str} {e : Expr} {es : List Expr} {tr : TA} {fr : En → Option (List D)} (G : FnOk X.prog X.w X.K X.mg X.base CX0 k f fd ps (spD X.K F)) (hr : Room k X.A) (hg : Gl X x) (hm : X.mg x = some (.ref f)) (hk : PySem.W.keepIn X.K (.ref f) = true) (hb : KBn X.K fd ps n [kn] (fun us ws => us ++ ws) (fun vs zs => vs ++ zs))
    (ha : DA X (e :: es) tr fr) (hv : DE X b tb fb) (hkp : PK X [⟨nm, b, pk⟩] (tCons tb tNil))
    (hall : (backToKw pos (keywordEach [⟨nm, b, pk⟩] X.env)).all (·.1.isSome) = true := by rfl) (hks : (backToKw pos (keywordEach [⟨nm, b, pk⟩] X.env)).filterMap (·.1) = [kn] := by rfl)
    (hdb : (x == ("__debug__" : Str)) = false := by decide) (he : starEach (e :: es) X.env = (false, eval e X.env) :: starEach es X.env := by rfl) (hpl : ((backTo pos (starEach (e :: es) X.env)).any (·.1) || (backToKw pos (keywordEach [⟨nm, b, pk⟩] X.env)).any (·.1.isNone)) = false := by rfl) :
    DE X (.Call (.Name x p) (e :: es) [⟨nm, b, pk⟩] pos) (tCallN n 1 (spD X.K F) (fun vs zs => vs ++ zs) E0 tr (tCons tb tNil)) (dCall F (aSnoc n fr fb)) := ⟨pe_callN G hr hg hm hk hb pass0 ha.p hkp hall hks hdb he hpl, fun B0 H0 B H σ en d hE e Q k => by
  obtain ⟨ds', e1, e⟩ := obind e
  obtain ⟨ds, e2, e1⟩ := obind e1
  obtain ⟨y, e3, e1⟩ := obind e1
  obtain ⟨hl, rfl⟩ := oite e1
  refine ha.c B0 H0 B H σ en ds hE e2 _ fun vs B1 H1 x1 r => ?_
  refine hv.c B0 H0 B1 H1 σ en y (hE.up x1) e3 _ fun v B2 H2 x2 r2 => ?_
  refine ⟨(rp_len r).trans hl, rfl, ?_⟩
  exact ⟨B2, ds ++ [y], d, (x1.trans x2).bh, rp_app (.cons r2 .nil) (rp_up x2.bb r), e, fun v B3 H3 z r3 => k v B3 H3 ((x1.trans x2).trans z) r3⟩⟩
end
structure KwOnly (K : PySem.W.Frag) (fd : FuncData) (ps : List Str) (n : Nat) (kn : Str) (b : Bool) (dv : List Value) : Prop where
  val : Vals [V.bl b] dv
  bind : Binds K fd ps dv
  kbn : KBn K fd ps n [kn] (fun us ws => us ++ ws) (fun vs zs => vs ++ zs)
theorem kwonly_mk {K : PySem.W.Frag} {x kn : Str} {st : Stmt} {f D : Addr} {od an : Option Addr} {oc dc pm cd ct : Value} {sl : Array (Option Value)} {ps : List Str} {n : Nat} {b : Bool}
    (l : K.lookup f = some ⟨oc, od, .func (PySem.W.fnOf x x (defArgs st) (defBody st) (defScope st) .none (.ref D) dc pm an cd ct), sl⟩) (c : PySem.W.codeIn K cd x = true) (k : PySem.W.keepIn K (.ref f) = true) (d : PySem.W.nsIn K D kn = some (some (.bool b))) (hn : n + 1 = ps.length)
    (h0 : ∀ (D : Addr) (doc pm : Value) (an : Option Addr) (cdv ct : Value) (us ks : List Value), us.length = n → ks.length = 1 → KwChain D ([kn].zip ks) (bindArgs (PySem.W.fnOf x x (defArgs st) (defBody st) (defScope st) .none (.ref D) doc pm an cdv ct) { pos := us }) (ps.zip (us ++ ks)))
    (h1 : ∀ (D : Addr) (doc pm : Value) (an : Option Addr) (cdv ct : Value) (us ws : List Value), us.length = n → ws.length = 1 → KwChain D [] (bindArgs (PySem.W.fnOf x x (defArgs st) (defBody st) (defScope st) .none (.ref D) doc pm an cdv ct) { pos := us, kw := [kn].zip ws }) (ps.zip (us ++ ws))) :
    ∃ dv, KwOnly K (PySem.W.fnOf x x (defArgs st) (defBody st) (defScope st) .none (.ref D) dc pm an cd ct) ps n kn b dv := by
  have F : FunD K x x (defArgs st) (defBody st) (defScope st) [] [(kn, V.bl b)] f (PySem.W.fnOf x x (defArgs st) (defBody st) (defScope st) .none (.ref D) dc pm an cd ct) :=
    ⟨⟨oc, od, .none, .ref D, dc, pm, an, cd, ct, sl, rfl, l, c, .inl ⟨rfl, rfl⟩, .inr ⟨D, rfl, fun q hq => by
      rw [List.mem_singleton.mp hq]
      exact ⟨_, d, rfl⟩⟩⟩, k⟩
  obtain ⟨dv, v, bd⟩ := F.binds0 (ps := ps) n (by simp) hn h0
  obtain ⟨mv, kb⟩ := F.kbinds0 (ps := ps) n [kn] [] (fun us mv ws => us ++ ws) (by simp) (fun q hq => nomatch hq) (fun a _ b => by
    induction a with
    | nil => exact b
    | cons h _ ih => exact .cons h ih) (fun D doc pm an cdv ct us mv ws hu hm hw => by
      cases mv with
      | cons => cases hm
      | nil => exact h1 D doc pm an cdv ct us ws hu hw)
  exact ⟨dv, v, bd, kb⟩
end DD

namespace DD
open PySem PySem.Spec PyProof.Rows L2 Evl
section
variable {K : PySem.W.Frag} {X : Cx} {pos : Pos} {a b : Expr} {ta tb : TE} {fa fb : En → Option D}
end
end DD

namespace DD
open PySem PySem.Spec PyProof.Rows L2 Evl
section
variable {K : PySem.W.Frag} {X : Cx} {pos : Pos} {a : Expr} {ta : TE} {fa : En → Option D} {B H : Hp}
end
end DD

namespace DD
open PySem PySem.Spec PyProof.Rows L2 Evl
section
variable {K : PySem.W.Frag} {X : Cx} {pos : Pos} {tg a e : Expr} {ta te : TE} {fa f : En → Option D} {tt : TT} {ft : En → Option Bool}
variable {B H : Hp} {d : Addr} {od : Obj} {kvs : List (List Key × V)}
def NF (u : HO) : Prop := ∀ o w, u ≠ .frz o w
mutual
theorem Rp.rd {B B' : Hp} (e : ∀ a u, NF u → Rd B a u → Rd B' a u) (et : ∀ a xs, B a = some (.tup xs) → B' a = some (.tup xs)) : ∀ (d : D) (v : V), Rp K B v d → Rp K B' v d
  | .non, _, h => by cases h; exact .non
  | .bl _, _, h => by cases h; exact .bl _
  | .int _, _, h => by cases h; exact .int _
  | .str _, _, h => by cases h; exact .str _
  | .lst ds, _, h => by
    cases h with
    | lst a b => exact .lst (a.elim (fun a => .inl (e _ _ (fun _ _ z => nomatch z) a)) .inr) (RpAll.rd e et ds _ b)
  | .tup ds, _, h => by cases h with | tup a b => exact .tup (et _ _ a) (RpAll.rd e et ds _ b)
  | .ctp ds, _, h => by
    cases h with
    | ctp a b => exact .ctp (a.elim (fun a => .inl (e _ _ (fun _ _ z => nomatch z) a)) .inr) (RpAll.rd e et ds _ b)
  | .dic _ ds, _, h => by cases h with | dic a b => exact .dic (e _ _ (fun _ _ z => nomatch z) a) (RpAll.rd e et ds _ b)
  | .dit _ ds, _, h => by cases h with | dit a b => exact .dit (e _ _ (fun _ _ z => nomatch z) a) (RpAll.rd e et ds _ b)
  | .fn _, _, h => by cases h with | fn _ a => exact .fn _ a
theorem RpAll.rd {B B' : Hp} (e : ∀ a u, NF u → Rd B a u → Rd B' a u) (et : ∀ a xs, B a = some (.tup xs) → B' a = some (.tup xs)) : ∀ (ds : List D) (vs : List V), RpAll K B vs ds → RpAll K B' vs ds
  | [], _, h => by cases h; exact .nil
  | d :: ds, _, h => by cases h with | cons a b => exact .cons (Rp.rd e et d _ a) (RpAll.rd e et ds _ b)
end
end
section
variable {K : PySem.W.Frag} {B H B' H' B0 : Hp} {H0 : HB} {d : Addr} {od : Obj} {kvs : List (List Key × V)}
end
section
variable {K : PySem.W.Frag} {X : Cx} {pos : Pos} {tg a e : Expr} {ta te : TE} {fa f : En → Option D} {tt : TT} {ft : En → Option Bool}
variable {B H : Hp} {d : Addr} {od : Obj} {kvs : List (List Key × V)}
end
end DD

namespace DD
open PySem PySem.Spec PyProof.Rows L2 Evl
section
variable {K : PySem.W.Frag} {X : Cx} {pos : Pos} {a : Expr} {ta : TE} {fa : En → Option D} {B H : Hp}
variable {tg b c e : Expr} {tb tc te : TE} {fb fc f : En → Option D} {tt : TT} {ft : En → Option Bool}
end
end DD

namespace DD
open PySem PySem.Spec PyProof.Rows L2 Evl
section
variable {K : PySem.W.Frag} {X : Cx} {pos : Pos} {a : Expr} {ta : TE} {fa : En → Option D}
end
end DD

namespace NC
open PySem PySem.Spec PyProof.Rows L2

structure CompE (e : Expr) : Prop where
  loop : ∀ (prog : Program) (w : World) (A : Around) (j : Nat) (it acc : Value) (env : Env) (Q : Fin → Shared → Prop) (E : Value → Shared → Prop) (s : Shared), wpAny (model prog w) A ((compTurn e j it acc env).onRaise (fun x => do noteFrame x env; theTreesLotGoes x)) Q E s → wpAny (model prog w) (A.under (.compLoop e j it acc env)) ((model prog w).den (.compLoop e j it acc env)) Q E s
  start : ∀ (prog : Program) (w : World) (A : Around) (j : Nat) (it acc : Value) (env : Env) (Q : Fin → Shared → Prop) (E : Value → Shared → Prop) (s : Shared), wpAny (model prog w) A ((compStart e j it acc env).onRaise (fun x => do noteFrame x env; standAt theWindowsPlace)) Q E s → wpAny (model prog w) (A.under (.compStart e j it acc env)) ((model prog w).den (.compStart e j it acc env)) Q E s
  quiet : ∀ (j : Nat) (it acc : Value) (env : Env), (Code.compLoop e j it acc env).quiet = true
section
variable {prog : Program} {w : World} {A : Around} {R : Result → Shared → Prop} {s : Shared}
end
abbrev TB := Addr → L2.St → Hp → (Hp → Prop) → Prop
structure PB (X : Cx) (body : Value → Env → Sem Unit) (vs : List Nat) (tb : TB) : Prop where
  run : ∀ (pins : List (Addr × Obj)) (s : Shared) (σ : L2.St) (H : Hp) (D : Addr) (Nx : Hp → Prop), Inv X pins σ H s → tb D σ H Nx →
    wpAny (model X.prog X.w) X.A (body (.ref D) X.env) (fun _ s' => ∃ H', Inv X pins (wipe σ vs) H' s' ∧ Nx H') (fun _ _ => False) s
def tB (wi : TI) (g : TG) (tt : TT) (vs : List Nat) (tb : TB) : TB := fun D σ H Nx => wi σ H fun J H1 => ∃ W : Nat → Nat → Hp → Prop, (∃ m, W 0 m H1) ∧ ∀ i m H2, W i m H2 →
  (J.stop i H2 ∧ Nx H2) ∨ (J.go i H2 ∧ ∃ N1 : Hp → Prop, (∀ H', N1 H' → ∃ m', m' < m ∧ W (i + 1) m' H') ∧ ∀ x H', J.yld i H2 x H' → g x (wipe σ vs) H' fun σ3 H3 => wipe σ3 vs = wipe σ vs ∧ tt σ3 H3 fun b H4 =>
    if b = true then tb D σ3 H4 N1 else N1 H4)
section
variable {X : Cx}
end
end NC

namespace DD
open PySem PySem.Spec PyProof.Rows L2 Evl NC
section
variable {K : PySem.W.Frag} {X : Cx} {pos : Pos} {tg : Expr} {te tk tv : TE} {f fk fv : En → Option D} {tt : TT} {ft : En → Option Bool}
def CB (K : PySem.W.Frag) (tb : TB) (F : En → Option (List D)) : Prop := ∀ B0 H0 B1 H1 B H σ en out D acc ads, EnOk K B0 H0 B H σ en → calmE en = true → F en = some out → Ext B0 H0 B1 H1 → H1 D = none → Ext B1 H1 B H → B D = none → H D = some (.lst acc) → RpAll K B acc ads → ads.length + out.length ≤ lim →
  ∀ Nx : Hp → Prop, (∀ B' H' acc', Ext B1 H1 B' H' → Ex B B' → B' D = none → H' D = some (.lst acc') → RpAll K B' acc' (ads ++ out) → Nx H') → tb D σ H Nx
structure DB (X : Cx) (body : Value → Env → Sem Unit) (vs : List Nat) (tb : TB) (F : En → Option (List D)) : Prop where
  p : PB X body vs tb
  c : CB X.K tb F
end
end DD

namespace DD
open PySem PySem.Spec PyProof.Rows L2 Evl NC
abbrev KD := List (List Key) × List D
section
variable {K : PySem.W.Frag} {X : Cx} {pos : Pos} {tg : Expr} {te tk tv : TE} {f fk fv : En → Option D} {tt : TT} {ft : En → Option Bool}
def CDt (K : PySem.W.Frag) (te : TE) (F : En → Option KD) : Prop := ∀ B0 H0 B H σ en a, EnOk K B0 H0 B H σ en → F en = some a → ∀ Q : VK, (∀ p kvs B' H', Ext B H B' H' → H p = none → B' p = none → H' p = some (.dT kvs) → kvs.map (·.1) = a.1 → RpAll K B' (kvs.map (·.2)) a.2 → Q (.ref p) H') → te σ H Q
structure DDt (X : Cx) (e : Expr) (te : TE) (F : En → Option KD) : Prop where
  p : PE X e te
  c : CDt X.K te F
end
end DD

namespace DD
open PySem PySem.Spec PyProof.Rows L2 Evl
section
variable {K : PySem.W.Frag} {X : Cx} {pos : Pos} {e : Expr} {te : TE} {f fk fv : En → Option D} {B H B0 B1 : Hp} {H0 : HB}
end
end DD

namespace DD
open PySem PySem.Spec PyProof.Rows L2 Evl
section
variable {K : PySem.W.Frag} {X : Cx} {pos : Pos} {a b : Expr} {ta tb : TE} {fa fb : En → Option D} {B H : Hp}
end
end DD

namespace DD
open PySem PySem.Spec PyProof.Rows L2 Evl
section
variable {X : Cx} {pins : List (Addr × Obj)} {σ : L2.St} {H : Hp} {s : Shared} {d : Addr} {o : Obj}
end
section
variable {P : Program} {w : World} {K : PySem.W.Frag} {tg : Expr} {d : Addr} {o : Obj} {es : Array DictEntry} {ep : Nat}
end
section
variable {X : Cx} {tg e : Expr} {td : TE} {apos cpos : Pos}
end
section
variable {K : PySem.W.Frag} {B H B' H' B0 : Hp} {H0 : HB} {d : Addr} {od : Obj} {kvs : List (List Key × V)}
end
section
variable {K : PySem.W.Frag} {X : Cx} {pos : Pos} {tg e : Expr} {t te : TE} {f f' : En → Option D} {tt : TT} {ft : En → Option Bool}
end
end DD

namespace DD
open PySem PySem.Spec PyProof.Rows L2 Evl
section
variable {K : PySem.W.Frag} {B H B' H' : Hp}
theorem Ow.ext (x : Ext B H B' H') (t : Tr) (v : V) (A : List Addr) (w : Ow K B H t v A) : Ow K B' H' t v A := Ow.mono x.bb t v A w fun q hq => by
  obtain ⟨a, b⟩ := Ow.free t v A w q hq
  refine ⟨?_, (x.st q b).trans a⟩
  cases c : H q with
  | none => exact absurd c b.1
  | some u => exact x.hh q u c
theorem OwAll.ext (x : Ext B H B' H') (t : List Tr) (v : List V) (A : List Addr) (w : OwAll K B H t v A) : OwAll K B' H' t v A := OwAll.mono x.bb t v A w fun q hq => by
  obtain ⟨a, b⟩ := OwAll.free t v A w q hq
  refine ⟨?_, (x.st q b).trans a⟩
  cases c : H q with
  | none => exact absurd c b.1
  | some u => exact x.hh q u c
theorem OwAll.len : ∀ {ts : List Tr} {vs : List V} {A : List Addr}, OwAll K B H ts vs A → vs.length = ts.length
  | [], _, _, h => by cases h; rfl
  | _ :: _, _, _, h => by cases h with | cons a b c => rw [List.length_cons, List.length_cons, OwAll.len b]
theorem OwAll.leaves : ∀ {ds : List D} {vs : List V}, RpAll K B vs ds → OwAll K B H (ds.map .lf) vs []
  | [], _, h => by cases h; exact .nil
  | d :: ds, _, h => by cases h with | cons a b => exact .cons (A := []) (A' := []) (.lf a) (OwAll.leaves b) fun _ z => (List.not_mem_nil z).elim
theorem OwAll.hole : ∀ {ts : List Tr} {vs : List V} {A : List Addr} {n : Nat} {t : Tr}, OwAll K B H ts vs A → ts[n]? = some t → ∃ u Au, vs[n]? = some u ∧ Ow K B H t u Au ∧ (∀ q ∈ Au, q ∈ A) ∧
    ∀ (B' H' : Hp) (t' : Tr) (u' : V) (Au' : List Addr), Ex B B' → (∀ q ∈ A, q ∉ Au → H' q = H q ∧ B' q = none) → Ow K B' H' t' u' Au' → (∀ q ∈ Au', q ∈ Au ∨ H q = none) → ∃ A', OwAll K B' H' (ts.set n t') (vs.set n u') A' ∧ ∀ q ∈ A', q ∈ A ∨ H q = none
  | [], _, _, _, _, h, e => by rw [List.getElem?_nil] at e; cases e
  | t0 :: ts, _, _, 0, t, h, e => by
    rw [List.getElem?_cons_zero] at e
    cases e
    cases h with
    | cons a b c =>
      rename_i v vs A1 A2
      refine ⟨v, A1, rfl, a, fun q hq => List.mem_append_left _ hq, fun B' H' t' u' Au' hB hk w f => ?_⟩
      have b' := OwAll.mono hB ts vs A2 b fun q hq => hk q (List.mem_append_right _ hq) fun z => c q z hq
      refine ⟨Au' ++ A2, .cons w b' fun q hq z => ?_, fun q hq => ?_⟩
      · rcases f q hq with g | g
        · exact c q g z
        · exact (OwAll.free ts vs A2 b q z).2.1 g
      · rcases List.mem_append.mp hq with hq | hq
        · exact (f q hq).imp (List.mem_append_left _) id
        · exact .inl (List.mem_append_right _ hq)
  | t0 :: ts, _, _, n + 1, t, h, e => by
    rw [List.getElem?_cons_succ] at e
    cases h with
    | cons a b c =>
      rename_i v vs A1 A2
      obtain ⟨u, Au, h1, h2, h3, h4⟩ := OwAll.hole b e
      refine ⟨u, Au, h1, h2, fun q hq => List.mem_append_right _ (h3 q hq), fun B' H' t' u' Au' hB hk w f => ?_⟩
      have a' := Ow.mono hB t0 v A1 a fun q hq => hk q (List.mem_append_left _ hq) fun z => c q hq (h3 q z)
      obtain ⟨A', h5, h6⟩ := h4 B' H' t' u' Au' hB (fun q hq z => hk q (List.mem_append_right _ hq) z) w f
      refine ⟨A1 ++ A', .cons a' h5 fun q hq z => ?_, fun q hq => ?_⟩
      · rcases h6 q z with g | g
        · exact c q hq g
        · exact (Ow.free t0 v A1 a q hq).2.1 g
      · rcases List.mem_append.mp hq with hq | hq
        · exact .inl (List.mem_append_left _ hq)
        · exact (h6 q hq).imp (List.mem_append_right _) id
theorem OwAll.snoc : ∀ {ts : List Tr} {vs : List V} {A Au : List Addr} {t : Tr} {u : V}, OwAll K B H ts vs A → Ow K B H t u Au → (∀ q ∈ A, q ∉ Au) → OwAll K B H (ts ++ [t]) (vs ++ [u]) (A ++ Au)
  | [], _, _, _, _, _, h, w, c => by
    cases h
    have := OwAll.cons w .nil fun _ _ z => List.not_mem_nil z
    rw [List.append_nil] at this
    exact this
  | t0 :: ts, _, _, _, _, _, h, w, c => by
    cases h with
    | cons a b d =>
      rw [List.append_assoc]
      exact .cons a (OwAll.snoc b w fun q hq => c q (List.mem_append_right _ hq)) fun q hq z => (List.mem_append.mp z).elim (d q hq) (c q (List.mem_append_left _ hq))
end
theorem EnOk.upT {K : PySem.W.Frag} {B0 B H H' : Hp} {H0 : HB} {σ : L2.St} {en : En} (h : EnOk K B0 H0 B H σ en) {i : Nat} {t t' : Tr} {v : V} {A A' : List Addr} (e : en[i]? = some (.tre t)) (hv : σ[i]? = some (some v)) (w : Ow K B H t v A)
    (hH : ∀ q, q ∉ A → H q ≠ none → H' q = H q) (w' : Ow K B H' t' v A') (f : ∀ q ∈ A', q ∈ A ∨ H q = none) : EnOk K B0 H0 B H' σ (en.set i (.tre t')) :=
  h.chgT e hv (fun q g => hH q fun z => g ⟨v, A, rfl, w, z⟩) ⟨v, A', rfl, w'⟩ fun q ⟨v2, A2, e2, w2, hq⟩ => by
    cases e2
    rw [Ow.det t' v _ _ w2 w'] at hq
    exact (f q hq).imp (fun z => ⟨v, A, rfl, w, z⟩) id
theorem EnOk.newT {K : PySem.W.Frag} {B0 B H B' H' : Hp} {H0 : HB} {σ : L2.St} {en : En} (h : EnOk K B0 H0 B H σ en) (x : Ext B H B' H') (i : Nat) {t : Tr} {v : V} {A : List Addr} (w : Ow K B' H' t v A) (f : ∀ q ∈ A, H q = none) : EnOk K B0 H0 B' H' (σ.set i (some v)) (en.set i (.tre t)) := by
  have ft : ∀ q, Ft K B' H' (.tre t) (some v) q → q ∈ A := fun q ⟨v2, A2, e2, w2, hq⟩ => by
    cases e2
    rw [Ow.det t v _ _ w2 w] at hq
    exact hq
  exact (h.up x).put i ⟨v, A, rfl, w⟩ (fun q g => fresh_back h.ext.hh (f q (ft q g))) fun j sj oj _ a b q g => h.nref (f q (ft q g)) x j sj oj a b
def rowsT (rows : List (List D)) : Tr := .ls (rows.map fun r => .ls (r.map .lf))
section
variable {K : PySem.W.Frag} {X : Cx} {pos : Pos} {tg a b c e : Expr} {ta tb te t1 t2 t3 : TE} {fa fb f f1 f2 f3 : En → Option D}
theorem set_same {α : Type} {l : List α} {n : Nat} {x : α} (h : l[n]? = some x) : l.set n x = l := by
  obtain ⟨hl, hx⟩ := List.getElem?_eq_some_iff.mp h
  subst hx
  exact List.set_getElem_self hl
theorem Ow.kidL {B H : Hp} {ts us : List Tr} {m : Nat} {p : Addr} {A : List Addr} (w : Ow K B H (.ls ts) (.ref p) A) (q : ts[m]? = some (.ls us)) : ∃ (vs : List V) (r : Addr) (ws : List V) (A2 : List Addr), H p = some (.lst vs) ∧ vs.length = ts.length ∧ vs[m]? = some (.ref r) ∧ H r = some (.lst ws) ∧ OwAll K B H us ws A2 ∧
    ∀ (us' : List Tr) (ws' : List V) (A3 : List Addr), OwAll K B (upd H r (.lst ws')) us' ws' A3 → (∀ q ∈ A3, q ∈ A2) → (∀ q, q ∉ A → H q ≠ none → upd H r (.lst ws') q = H q) ∧ ∃ A', Ow K B (upd H r (.lst ws')) (.ls (ts.set m (.ls us'))) (.ref p) A' ∧ ∀ q ∈ A', q ∈ A ∨ H q = none := by
  cases w with
  | ls w1 w2 w3 w4 =>
    rename_i vs A1
    obtain ⟨u, Au, g1, g2, g3, g4⟩ := OwAll.hole w3 q
    cases g2 with
    | ls y1 y2 y3 y4 =>
      rename_i r ws A2
      refine ⟨vs, r, ws, A2, w2, w3.len, g1, y2, y3, fun us' ws' A3 h3 k => ⟨fun q hq _ => upd_ne fun z => hq ?_, ?_⟩⟩
      · rw [z]; exact List.mem_cons_of_mem _ (g3 r List.mem_cons_self)
      obtain ⟨A4, k3, k4⟩ := g4 B (upd H r (.lst ws')) (.ls us') (.ref r) (r :: A3) (Ex.refl _) (fun q hq nq => ⟨upd_ne (fun z => nq (by rw [z]; exact List.mem_cons_self)), (OwAll.free _ _ _ w3 q hq).1⟩) (.ls y1 upd_same h3 fun z => y4 (k r z)) fun q hq => by
        rcases List.mem_cons.mp hq with rfl | hq
        · exact .inl List.mem_cons_self
        · exact .inl (List.mem_cons_of_mem _ (k q hq))
      rw [set_same g1] at k3
      have hpr : p ≠ r := fun z => w4 (by rw [z]; exact g3 r List.mem_cons_self)
      refine ⟨p :: A4, .ls w1 (by rw [upd_ne hpr]; exact w2) k3 (fun z => (k4 p z).elim w4 fun z2 => by rw [w2] at z2; cases z2), fun q hq => ?_⟩
      rcases List.mem_cons.mp hq with rfl | hq
      · exact .inl List.mem_cons_self
      · exact (k4 q hq).imp (List.mem_cons_of_mem _) id
theorem hasTre {en : En} {i : Nat} {β : Type} {e : Tr → Option β} {b : β} (h : (match en[i]? with | some (.tre t) => e t | _ => none) = some b) : ∃ t, en[i]? = some (.tre t) ∧ e t = some b := by
  cases hen : en[i]? with
  | none => rw [hen] at h; cases h
  | some s => cases s <;> first | exact ⟨_, rfl, by rw [hen] at h; exact h⟩ | (rw [hen] at h; cases h; done)
def appT1 (t : Tr) (z : Int) (d : D) : Option Tr := match t with
  | .ls ts => (ixN ts.length z).bind fun m => match ts[m]? with
    | some (.ls us) => if us.length ≤ lim then some (.ls (ts.set m (.ls (us ++ [.lf d])))) else none
    | _ => none
  | _ => none
theorem appT1_some {t t' : Tr} {z : Int} {d : D} (h : appT1 t z d = some t') : ∃ ts us m, t = .ls ts ∧ ixN ts.length z = some m ∧ ts[m]? = some (.ls us) ∧ us.length ≤ lim ∧ t' = .ls (ts.set m (.ls (us ++ [.lf d]))) := by
  unfold appT1 at h
  split at h
  · rename_i ts
    obtain ⟨m, h1, h⟩ := obind h
    split at h
    · rename_i us h2
      obtain ⟨h3, rfl⟩ := oite h
      exact ⟨ts, us, m, rfl, h1, h2, h3, rfl⟩
    · cases h
  · cases h
def sApp1 (i : Nat) (f1 f : En → Option D) : En → Option Out := fun en => (f1 en).bind fun a => (f en).bind fun v => match a with
  | .int z => (match en[i]? with
    | some (.tre t) => (appT1 t z v).map fun t' => .nx (en.set i (.tre t'))
    | _ => none)
  | _ => none
theorem cs_app1 {i : Nat} (h1 : CE K t1 f1) (h : CE K te f) : CS K (tDrop (tBM K "list" rAppend (tOp (rIx K) (tVar i) t1) (tCons te tNil))) (sApp1 i f1 f) := fun B0 H0 B H σ en o hE e Dn k => by
  obtain ⟨a, e1, e⟩ := obind e
  obtain ⟨d, e2, e⟩ := obind e
  obtain ⟨z, rfl⟩ : ∃ z, a = .int z := by cases a <;> first | exact ⟨_, rfl⟩ | (cases e; done)
  obtain ⟨t, hi, e⟩ := hasTre e
  obtain ⟨t', e4, rfl⟩ := omap e
  obtain ⟨ts, us, m, rfl, q1, q2, q3, rfl⟩ := appT1_some e4
  obtain ⟨p, A, hp, w, f0⟩ := hE.tre hi
  have w' := w
  cases w' with
  | ls w1 w2 w3 w4 =>
    rename_i p vs A1
    obtain ⟨vs', r, ws, A2, g1, g2, g3, g4, g5, _⟩ := Ow.kidL w q2
    rw [w2] at g1
    cases g1
    refine ⟨.ref p, hp, ?_⟩
    refine h1 B0 H0 B H σ en _ hE e1 _ fun v1 B1 H1 x1 r1 => ?_
    cases r1
    refine .inl ⟨p, vs, z, .ref r, rfl, rfl, SqL.of (x1.hh _ _ w2), ?_, ?_⟩
    · unfold atI
      rw [g2, q1]
      exact g3
    refine ⟨.inl ⟨rfl, _, SqL.of (x1.hh _ _ g4)⟩, ?_⟩
    refine h B0 H0 B1 H1 σ en d (hE.up x1) e2 _ fun v B2 H2 x2 r2 => ?_
    have x12 := x1.trans x2
    have wE := Ow.ext x12 _ _ _ w
    obtain ⟨vs2, r2', ws2, A2', j1, j2, j3, j4, j5, j6⟩ := Ow.kidL wE q2
    rw [x12.hh _ _ w2] at j1
    cases j1
    rw [g3] at j3
    cases j3
    rw [x12.hh _ _ g4] at j4
    cases j4
    have nr : ∀ q ∈ A2', q ≠ r := fun q hq zz => by
      subst zz
      have hb := OwAll.free _ _ _ j5 q hq
      -- the root of the inner list is not among its own things
      cases wE with
      | ls u1 u2 u3 u4 =>
        rename_i vs3 A3
        rw [x12.hh _ _ w2] at u2
        cases u2
        obtain ⟨u, Au, l1, l2, l3, l4⟩ := OwAll.hole u3 q2
        rw [g3] at l1
        cases l1
        cases l2 with
        | ls m1 m2 m3 m4 =>
          rw [x12.hh _ _ g4] at m2
          cases m2
          rw [OwAll.det _ _ _ _ j5 m3] at hq
          exact m4 hq
    have in2 : OwAll K B2 (upd H2 r (.lst (ws ++ [v]))) (us ++ [.lf d]) (ws ++ [v]) (A2' ++ []) := OwAll.snoc (OwAll.mono (Ex.refl _) _ _ _ j5 fun q hq => ⟨upd_ne (nr q hq), (OwAll.free _ _ _ j5 q hq).1⟩) (.lf r2) fun q _ => List.not_mem_nil
    rw [List.append_nil] at in2
    obtain ⟨hH, A', o1, o2⟩ := j6 _ _ _ in2 fun q hq => hq
    refine ⟨r, ws, v, rfl, rfl, x12.hh _ _ g4, lim_lt (by rw [g5.len]; exact q3), ?_⟩
    exact k _ B2 _ x12.bb ((hE.up x12).upT hi hp (Ow.ext x12 _ _ _ w) hH o1 o2)
theorem ds_app1 {i : Nat} {x : Expr} {pos3 apos cpos pos' : Pos} (hK : X.K = K) (hx : PE X x (tVar i)) (h1 : DE X a t1 f1) (he : DE X e te f) (ha : PlainIx a)
    (hbase : attributeBase (.Subscript x a pos3) "append" X.env (eval (.Subscript x a pos3) X.env) = eval (.Subscript x a pos3) X.env := by rfl)
    (hfew : ((backTo cpos (starEach (e :: []) X.env)).all (fun x => !x.1) && (backToKw cpos (keywordEach [] X.env)).all (fun x => x.1.isSome)
      && decide ((e :: []).length + ([] : List Keyword).length + (if ([] : List Keyword).isEmpty then 0 else 1) < 30)) = true := by rfl)
    (hline : (apos.endLine == cpos.line) = true := by rfl) (hs : starEach (e :: []) X.env = (false, eval e X.env) :: starEach [] X.env := by rfl) (hplain : (backTo cpos (starEach [] X.env)).any (·.1) = false := by rfl)
    (hsw : swapsWith (.Call (.Attribute (.Subscript x a pos3) "append" apos) [e] [] cpos) none pos'.line X.env = pure false := by rfl) :
    DS X (.Expr (.Call (.Attribute (.Subscript x a pos3) "append" apos) [e] [] cpos) pos') (tDrop (tBM K "list" rAppend (tOp (rIx K) (tVar i) t1) (tCons te tNil))) (sApp1 i f1 f) := by
  subst hK
  exact ⟨ps_expr (pe_bm PySem.F.plainAttrs_list PySem.F.slot_list_append PySem.F.type_list_append mt_append (pe_ix ix_seq hx h1.p ha) (pa_cons he.p pa_nil hs) hbase hfew hline hs hplain) hsw, cs_app1 h1.c he.c⟩
end
end DD

namespace DD
open PySem PySem.Spec PyProof.Rows L2 Evl
section
variable {K : PySem.W.Frag} {B H : Hp} {d : Addr} {od : Obj} {kvs : List (Key × V)}
end
section
variable {K : PySem.W.Frag} {B H B' H' B0 : Hp} {H0 : HB} {d : Addr} {od : Obj} {kvs : List (Key × V)}
end
section
variable {K : PySem.W.Frag} {X : Cx} {pos : Pos} {tg a e : Expr} {ta te : TE} {fa f : En → Option D} {tt : TT} {ft : En → Option Bool}
variable {B H : Hp} {d : Addr} {od : Obj} {kvs : List (Key × V)}
end
end DD

namespace DD
open PySem PySem.Spec PyProof.Rows L2 Evl
section
variable {K : PySem.W.Frag} {X : Cx} {pos : Pos} {a : Expr} {ta : TE} {fa : En → Option D} {B H : Hp}
end
end DD

namespace ZS
open PySem PySem.Spec PyProof.Rows L2 ZZ ZK
def SI (h : Heap) (it : Addr) (x : Str) (t : Tok) (i : Nat) : Prop := h.IsStrIter it (strIterType x) x t i
theorem SI.at {h h' : Heap} {it : Addr} {x : Str} {t : Tok} {i : Nat} (y : SI h it x t i) (e : ∀ o, h.get? it = some o → h'.get? it = some o) : SI h' it x t i := by
  obtain ⟨o, ho, r⟩ := y
  exact ⟨o, e o ho, r⟩
section
variable {prog : Program} {w : World} {A : Around} {E : Value → Shared → Prop}
structure Ap (z TI TO i1 i2 l2 : Addr) : Prop where
  a1 : TI ≠ z
  a2 : TO ≠ z
  a3 : i1 ≠ z
  a4 : i2 ≠ z
  b1 : TI ≠ TO
  b2 : TO ≠ i1
  b3 : TO ≠ i2
  b4 : TI ≠ i1
  b5 : TI ≠ i2
  c1 : i1 ≠ i2
  d3 : l2 ≠ z
  d4 : l2 ≠ TO
  d5 : l2 ≠ i1
end
section
variable {prog : Program} {w : World} {A : Around} {E : Value → Shared → Prop} {s : Shared}
end
end ZS

namespace ZS
open PySem PySem.Spec PyProof.Rows L2 ZZ ZK
section
variable {prog : Program} {w : World} {A : Around} {E : Value → Shared → Prop}
end
end ZS

namespace DD
open PySem PySem.Spec PyProof.Rows L2 Evl
section
variable {K : PySem.W.Frag} {X : Cx} {pos : Pos} {a b : Expr} {fr : En → Option (List D)} {tr : TA} {B H : Hp}
end
end DD

namespace DD
open PySem PySem.Spec PyProof.Rows L2 Evl
section
variable {K : PySem.W.Frag} {X : Cx} {pos : Pos} {c e : Expr} {te : TE} {f : En → Option D} {B H B0 B1 : Hp} {H0 : HB} {tt : TT} {ft : En → Option Bool} {t : TS} {g : En → Option Out}
end
end DD

namespace DD
open PySem PySem.Spec PyProof.Rows L2 Evl
section
variable {K : PySem.W.Frag} {B H B' H' B0 : Hp} {H0 : HB} {σ : L2.St} {en : En}
end
section
variable {K : PySem.W.Frag} {B H B' H' B0 : Hp} {H0 : HB} {σ : L2.St} {en : En}
structure Aft (K : PySem.W.Frag) (B H : Hp) (A : List Addr) (B' H' : Hp) : Prop where
  bb : Ex B B'
  bh : Ex B' H'
  hh : ∀ q, q ∉ A → H q ≠ none → H' q = H q
  st : ∀ q, q ∉ A → Mt H q → B' q = B q
end
section
variable {K : PySem.W.Frag} {X : Cx} {pos : Pos} {e : Expr} {te : TE} {f : En → Option D} {B H B0 B1 : Hp} {H0 : HB}
end
open Classical in
noncomputable def hole (H : Hp) (A : List Addr) : Hp := fun q => if q ∈ A then none else H q
section
variable {K : PySem.W.Frag} {B H : Hp}
end
def CAP (K : PySem.W.Frag) (tr : TA) (fr : En → Option (List D)) (i j : Nat) : Prop := ∀ B0 H0 B H σ en ds, EnOk K B0 H0 B H σ en → fr en = some ds → ∀ v, σ[i]? = some (some v) → ∀ Q : List V → Hp → Prop, (∀ vs B' H', Ext B H B' H' → vs[j]? = some v → RpAll K B' (vs.eraseIdx j) ds → Q vs H') → tr σ H Q
structure DAP (X : Cx) (es : List Expr) (tr : TA) (fr : En → Option (List D)) (i j : Nat) : Prop where
  p : PA X es tr
  c : CAP X.K tr fr i j
section
variable {K : PySem.W.Frag} {X : Cx} {pos : Pos} {e : Expr} {es : List Expr} {te : TE} {tr : TA} {f : En → Option D} {fr : En → Option (List D)} {i j : Nat}
def CAN (K : PySem.W.Frag) (tr : TA) (fr : En → Option (List D)) (j : Nat) : Prop := ∀ B0 H0 B H σ en ds, EnOk K B0 H0 B H σ en → fr en = some ds → ∀ Q : List V → Hp → Prop, (∀ vs p B' H', Ext B H B' H' → H p = none → B' p = none → H' p = some (.dT []) → vs[j]? = some (.ref p) → RpAll K B' (vs.eraseIdx j) ds → Q vs H') → tr σ H Q
structure DAN (X : Cx) (es : List Expr) (tr : TA) (fr : En → Option (List D)) (j : Nat) : Prop where
  p : PA X es tr
  c : CAN X.K tr fr j
end
end DD

namespace DD
open PySem PySem.Spec PyProof.Rows L2 Evl
section
variable {K : PySem.W.Frag} {X : Cx} {pos : Pos} {x b e : Expr} {tb te : TE} {fb f : En → Option D} {B H B0 : Hp} {H0 : HB} {σ : L2.St} {en : En}
end
end DD

namespace DD
open PySem PySem.Spec PyProof.Rows L2 Evl
section
variable {K : PySem.W.Frag} {B H : Hp}
end
section
variable {K : PySem.W.Frag} {X : Cx} {pos : Pos} {e : Expr} {te : TE} {f : En → Option D}
end
end DD

namespace DD
open PySem PySem.Spec PyProof.Rows L2 Evl
section
variable {K : PySem.W.Frag} {X : Cx} {pos : Pos} {te : TE} {tr : TA} {B H B' H' : Hp}
def CTe (K : PySem.W.Frag) (te : TE) (F : En → Option Tr) : Prop := ∀ B0 H0 B H σ en t, EnOk K B0 H0 B H σ en → F en = some t → ∀ Q : VK, (∀ v A B' H', Ext B H B' H' → Ow K B' H' t v A → (∀ q ∈ A, H q = none) → Q v H') → te σ H Q
def CTa (K : PySem.W.Frag) (tr : TA) (F : En → Option (List Tr)) : Prop := ∀ B0 H0 B H σ en ts, EnOk K B0 H0 B H σ en → F en = some ts → ∀ Q : List V → Hp → Prop, (∀ vs A B' H', Ext B H B' H' → OwAll K B' H' ts vs A → (∀ q ∈ A, H q = none) → Q vs H') → tr σ H Q
structure DTe (X : Cx) (e : Expr) (te : TE) (F : En → Option Tr) : Prop where
  p : PE X e te
  c : CTe X.K te F
structure DTa (X : Cx) (es : List Expr) (tr : TA) (F : En → Option (List Tr)) : Prop where
  p : PA X es tr
  c : CTa X.K tr F
def trNil : En → Option (List Tr) := fun _ => some []
def trCons (F : En → Option Tr) (G : En → Option (List Tr)) : En → Option (List Tr) := fun en => (F en).bind fun t => (G en).map fun ts => t :: ts
def trLst (G : En → Option (List Tr)) : En → Option Tr := fun en => (G en).bind fun ts => if ts.length ≤ lim then some (.ls ts) else none
theorem cta_nil : CTa K tNil trNil := fun B0 H0 B H σ en ts hE e Q k => by
  cases e
  exact k [] [] B H (Ext.refl hE.bh) .nil fun _ h => nomatch h
theorem cta_cons {F : En → Option Tr} {G : En → Option (List Tr)} (h : CTe K te F) (h2 : CTa K tr G) : CTa K (tCons te tr) (trCons F G) := fun B0 H0 B H σ en ts hE e Q k => by
  obtain ⟨t, e1, e⟩ := obind e
  obtain ⟨us, e2, rfl⟩ := omap e
  refine h B0 H0 B H σ en t hE e1 _ fun v A B1 H1 x1 w1 f1 => ?_
  refine h2 B0 H0 B1 H1 σ en us (hE.up x1) e2 _ fun vs A2 B2 H2 x2 w2 f2 => ?_
  refine k (v :: vs) (A ++ A2) B2 H2 (x1.trans x2) (.cons (Ow.ext x2 t v A w1) w2 fun q hq hq2 => (Ow.free t v A w1 q hq).2.1 (f2 q hq2)) fun q hq => ?_
  rcases List.mem_append.mp hq with hq | hq
  · exact f1 q hq
  · exact ext_fresh x1 (f2 q hq)
theorem cte_lst {G : En → Option (List Tr)} (h : CTa K tr G) : CTe K (tLst tr) (trLst G) := fun B0 H0 B H σ en t hE e Q k => by
  obtain ⟨ts, e1, e⟩ := obind e
  obtain ⟨hl, rfl⟩ := oite e
  refine h B0 H0 B H σ en ts hE e1 _ fun vs A B1 H1 x w f => ⟨by rw [OwAll.len w]; exact lim_le hl, fun p hp => ?_⟩
  have y := Ext.newM (o := .lst vs) x.bh hp
  refine k (.ref p) (p :: A) B1 _ (x.trans y) (.ls (fresh_back x.bh hp) upd_same (OwAll.ext y ts vs A w) fun z => (OwAll.free ts vs A w p z).2.1 hp) fun q hq => ?_
  rcases List.mem_cons.mp hq with rfl | hq
  · exact ext_fresh x hp
  · exact f q hq
theorem dta_nil : DTa X [] tNil trNil := ⟨pa_nil, cta_nil⟩
theorem dta_cons {e : Expr} {es : List Expr} {F : En → Option Tr} {G : En → Option (List Tr)} (h : DTe X e te F) (h2 : DTa X es tr G) (hs : starEach (e :: es) X.env = (false, eval e X.env) :: starEach es X.env := by rfl) : DTa X (e :: es) (tCons te tr) (trCons F G) := ⟨pa_cons h.p h2.p hs, cta_cons h.c h2.c⟩
theorem dte_lst {es : List Expr} {G : En → Option (List Tr)} (h : DTa X es tr G) : DTe X (.List es pos) (tLst tr) (trLst G) := ⟨pe_lst h.p, cte_lst h.c⟩
def sTreE (i : Nat) (F : En → Option Tr) : En → Option Out := fun en => (F en).map fun t => .nx (en.set i (.tre t))
theorem ds_treE {i : Nat} {x : Str} {pos' : Pos} {e : Expr} {F : En → Option Tr} (hN : X.N.Nodup) (hi : X.N[i]? = some x) (hx : Loc X.env.scope x) (he : DTe X e te F) (hs : swapsWith e (some (.Name x pos')) pos.line X.env = pure false := by rfl) (hf : X.fn x = true ∨ X.env.scope.names.lookup x = some .local := by first | exact .inl rfl | exact .inr rfl | assumption) :
    DS X (.Assign [.Name x pos'] e pos) (tAsg te (gName i)) (sTreE i F) := ⟨ps_set hN hi hx he.p hs hf, fun B0 H0 B H σ en o hE q Dn k => by
  obtain ⟨t, e1, rfl⟩ := omap q
  refine he.c B0 H0 B H σ en t hE e1 _ fun v A B' H' x w f => ?_
  exact k _ B' _ x.bb (hE.newT x i w f)⟩
end
section
variable {X : Cx} {pos : Pos} {K : PySem.W.Frag} {b : Expr} {tb : TE} {fb : En → Option D}
end
section
variable {X : Cx} {pos : Pos} {K : PySem.W.Frag}
end
section
open NC
variable {X : Cx}
end
end DD

namespace DD
open PySem PySem.Spec PyProof.Rows L2 Evl
section
variable {K : PySem.W.Frag} {B H : Hp}
open Classical in
theorem EnOk.thawY {B0 : Hp} {H0 : HB} {σ : L2.St} {en : En} (h : EnOk K B0 H0 B H σ en) : ∃ (own : Addr → Prop) (B1 : Hp), (∀ q, own q → B1 q = H q) ∧ (∀ q, ¬ own q → B1 q = B q) ∧ (∀ q, own q → B q = none ∧ Mt H q) ∧ Ex B B1 ∧ Ex B1 H ∧ EnOk K B1 ⟨H, H0.rt⟩ B1 H σ (en.map Sl.thaw) ∧ (∀ (i : Nat) (s : Sl) (o : Option V) (d : D), en[i]? = some s → σ[i]? = some o → s.thaw = .dat d → ∀ q, Ft K B H s o q → own q) := by
  let own : Addr → Prop := fun q => ∃ (i : Nat) (s : Sl) (o : Option V) (d : D), en[i]? = some s ∧ σ[i]? = some o ∧ s.thaw = .dat d ∧ Ft K B H s o q
  let B1 : Hp := fun q => if own q then H q else B q
  have hB : Ex B B1 := fun q o e => by
    show (if own q then H q else B q) = some o
    by_cases hq : own q
    · rw [if_pos hq]; exact h.bh q o e
    · rw [if_neg hq]; exact e
  have hH : Ex B1 H := fun q o e => by
    have e : (if own q then H q else B q) = some o := e
    by_cases hq : own q
    · rw [if_pos hq] at e; exact e
    · rw [if_neg hq] at e; exact h.bh q o e
  have hO : ∀ q o, own q → H q = some o → B1 q = some o := fun q o hq e => by
    show (if own q then H q else B q) = some o
    rw [if_pos hq]; exact e
  have hN : ∀ q, ¬ own q → B q = none → B1 q = none := fun q hq e => by
    show (if own q then H q else B q) = none
    rw [if_neg hq]; exact e
  refine ⟨own, B1, fun q hq => if_pos hq, fun q hq => if_neg hq, fun q ⟨i, s, o, d, a, b, c, f⟩ => (h.slot i s o a b).free f, hB, hH, ?_, fun i s o d a b c q f => ⟨i, s, o, d, a, b, c, f⟩⟩
  refine ⟨Ext.refl hH, by rw [List.length_map, h.len], fun i s o e1 e2 => ?_, fun i j si sj oi oj q e1 e2 e3 e4 f => ?_, fun i s o q e1 e2 f => ?_, fun i t o e1 e2 => ?_, fun i t o e1 e2 => ?_⟩
  · rw [List.getElem?_map] at e1
    obtain ⟨s', e3, rfl⟩ := omap e1
    exact (h.slot i s' o e3 e2).thaw hB fun d hd q f u hu => hO q u ⟨i, s', o, d, e3, e2, hd, f⟩ hu
  · rw [List.getElem?_map] at e1
    obtain ⟨s', e3, rfl⟩ := omap e1
    exact (thaw_ft f).elim
  · rw [List.getElem?_map] at e1
    obtain ⟨s', e3, rfl⟩ := omap e1
    exact (thaw_ft f).elim
  · rw [List.getElem?_map] at e1
    obtain ⟨s', e3, e4⟩ := omap e1
    exact (thaw_no_par e4).elim
  · rw [List.getElem?_map] at e1
    obtain ⟨s', e3, e4⟩ := omap e1
    rcases thaw_ro e4 with rfl | ⟨z, hd⟩
    · obtain ⟨v, A, e5, w⟩ := h.ro i t o e3 e2
      obtain ⟨k, w'⟩ := h.roH w
      refine ⟨v, A, e5, Ow.mono hB t v A w' fun q hq => ⟨rfl, hN q (fun z => ?_) (k q hq).2⟩⟩
      obtain ⟨j, s, o', d, a1, a2, a3, a4⟩ := z
      have := h.frs j s o' q a1 a2 a4
      exact (Ow.free t v A w q hq).2.1 this
    · have : ∃ v A, o = some v ∧ Ow K B H t v A ∧ (∀ q ∈ A, Ft K B H s' o q) := by
        rcases z with rfl | rfl
        · obtain ⟨v, A, e5, w⟩ := h.slot i _ o e3 e2
          exact ⟨v, A, e5, w, fun q hq => ⟨v, A, e5, w, hq⟩⟩
        · obtain ⟨v, A, e5, w⟩ := h.slot i _ o e3 e2
          exact ⟨v, A, e5, w, fun q hq => ⟨v, A, e5, w, hq⟩⟩
      obtain ⟨v, A, e5, w, ft⟩ := this
      refine ⟨v, A, e5, Ow.mono hB t v A w fun q hq => ⟨rfl, hN q (fun z2 => ?_) (Ow.free t v A w q hq).1⟩⟩
      obtain ⟨j, s, o', d, a1, a2, a3, a4⟩ := z2
      have : j = i := h.apart j i s s' o' o q a1 e3 a2 e2 a4 (ft q hq)
      subst this
      rw [e3] at a1
      cases a1
      rw [e4] at a3
      cases a3
theorem OwAll.part {l l' : List (V × Tr)} (s : l'.Sublist l) : ∀ {A : List Addr}, OwAll K B H (l.map (·.2)) (l.map (·.1)) A → ∃ A', OwAll K B H (l'.map (·.2)) (l'.map (·.1)) A' ∧ ∀ q ∈ A', q ∈ A := by
  induction s with
  | slnil => exact fun {A} h => ⟨A, h, fun _ h => h⟩
  | cons a s ih =>
    intro A h
    cases h with
    | cons w r c =>
      obtain ⟨A', h', k⟩ := ih r
      exact ⟨A', h', fun q hq => List.mem_append_right _ (k q hq)⟩
  | cons_cons a s ih =>
    intro A h
    cases h with
    | cons w r c =>
      obtain ⟨A', h', k⟩ := ih r
      refine ⟨_, .cons w h' fun q hq z => c q hq (k q z), fun q hq => ?_⟩
      exact (List.mem_append.mp hq).elim (List.mem_append_left _) fun z => List.mem_append_right _ (k q z)
theorem OwAll.perm {l l' : List (V × Tr)} (s : l.Perm l') : ∀ {A : List Addr}, OwAll K B H (l.map (·.2)) (l.map (·.1)) A → ∃ A', OwAll K B H (l'.map (·.2)) (l'.map (·.1)) A' ∧ ∀ q ∈ A', q ∈ A := by
  induction s with
  | nil => exact fun {A} h => ⟨A, h, fun _ h => h⟩
  | cons a s ih =>
    intro A h
    cases h with
    | cons w r c =>
      obtain ⟨A', h', k⟩ := ih r
      refine ⟨_, .cons w h' fun q hq z => c q hq (k q z), fun q hq => ?_⟩
      exact (List.mem_append.mp hq).elim (List.mem_append_left _) fun z => List.mem_append_right _ (k q z)
  | swap a b l =>
    intro A h
    cases h with
    | cons w r c =>
      cases r with
      | cons w2 r2 c2 =>
        refine ⟨_, .cons w2 (.cons w r2 fun q hq z => c q hq (List.mem_append_right _ z)) fun q hq z => ?_, fun q hq => ?_⟩
        · rcases List.mem_append.mp z with z | z
          · exact c q z (List.mem_append_left _ hq)
          · exact c2 q hq z
        · rcases List.mem_append.mp hq with z | z
          · exact List.mem_append_right _ (List.mem_append_left _ z)
          · rcases List.mem_append.mp z with z | z
            · exact List.mem_append_left _ z
            · exact List.mem_append_right _ (List.mem_append_right _ z)
  | trans _ _ h1 h2 =>
    intro A h
    obtain ⟨A1, w1, k1⟩ := h1 h
    obtain ⟨A2, w2, k2⟩ := h2 w1
    exact ⟨A2, w2, fun q hq => k1 q (k2 q hq)⟩
abbrev Z3 := List ((V × Tr) × D)
theorem zip3 : ∀ (vs : List V) (ts : List Tr) (ds : List D), vs.length = ts.length → ds.length = ts.length → ∃ L : Z3, L.map (·.1.1) = vs ∧ L.map (·.1.2) = ts ∧ L.map (·.2) = ds ∧ L.map (fun z => (z.1.2, z.2)) = ts.zip ds
  | [], [], [], _, _ => ⟨[], rfl, rfl, rfl, rfl⟩
  | v :: vs, t :: ts, d :: ds, h1, h2 => by
    obtain ⟨L, a, b, c, e⟩ := zip3 vs ts ds (by simpa using h1) (by simpa using h2)
    exact ⟨((v, t), d) :: L, by rw [List.map_cons, a], by rw [List.map_cons, b], by rw [List.map_cons, c], by rw [List.map_cons, e] <;> rfl⟩
  | [], t :: ts, _, h, _ => by simp at h
  | v :: vs, [], _, h, _ => by simp at h
  | [], [], d :: ds, _, h => by simp at h
  | v :: vs, t :: ts, [], _, h => by simp at h
def keepT (ft : En → Option Bool) (j : Nat) (vs : List Nat) (en : En) (d : D) : Option Bool := ft ((wipeE (en.map Sl.thaw) vs).set j (.dat d))
def sTreS (i j : Nat) (ft : En → Option Bool) (vs : List Nat) : En → Option Out := fun en => match en[i]? with
  | some (.tre (.ls ts)) => (Tr.dAll ts).bind fun ds => if ((ts.zip ds).all fun z => (keepT ft j vs en z.2).isSome) = true ∧ srtOk (((ts.zip ds).filter fun z => (keepT ft j vs en z.2).getD false).map (·.2)) = true ∧ ds.length ≤ lim ∧ j < en.length then
      some (.nx (en.set i (.tre (.ls ((((ts.zip ds).filter fun z => (keepT ft j vs en z.2).getD false).mergeSort fun x y => leD x.2 y.2).map (·.1)))))) else none
  | _ => none
theorem rpall_at : ∀ {vs : List V} {ds : List D} {L : Z3}, RpAll K B vs ds → L.map (·.1.1) = vs → L.map (·.2) = ds → ∀ z ∈ L, Rp K B z.1.1 z.2
  | _, _, [], _, _, _, z, hz => by cases hz
  | _, _, x :: L, h, e1, e2, z, hz => by
    rw [List.map_cons] at e1 e2
    subst e1
    subst e2
    cases h with
    | cons r q =>
      rcases List.mem_cons.mp hz with rfl | hz
      · exact r
      · exact rpall_at q rfl rfl z hz
theorem wipe_j {σ : L2.St} {vs : List Nat} {j : Nat} {o : Option V} (hj : j ∈ vs) : L2.wipe ((L2.wipe σ vs).set j o) vs = L2.wipe σ vs := by
  refine wipe_same (is := [j]) (by rw [List.length_set]) (fun k hk => ?_) fun k hk => by rw [List.mem_singleton.mp hk]; exact hj
  rw [List.getElem?_set_ne fun z => hk (by rw [z]; exact List.mem_singleton_self _)]
open Classical in
theorem cs_treS {i j : Nat} {tt : TT} {ft : En → Option Bool} {vs : List Nat} (ht : CT K tt ft) (hj : j ∈ vs) :
    CS K (tAsg (tCB (rSrt K) (tCons (tLc (tSeqAny K (tVar i)) (gName j) tt (tVar j) vs) tNil)) (gName i)) (sTreS i j ft vs) := fun B0 H0 B H σ en o hE e Dn k => by
  unfold sTreS at e
  split at e
  case h_2 => cases e
  rename_i ts et
  obtain ⟨ds, ed, e⟩ := obind e
  obtain ⟨⟨c1, c2, c3, c4⟩, rfl⟩ := oite e
  obtain ⟨o1, ho⟩ := hE.lt et
  have sl := hE.slot i _ o1 et ho
  obtain ⟨v, A0, rfl, w⟩ := sl
  have w0 := w
  cases w with
  | ls pb hp oa npA =>
  rename_i p vs0 A
  obtain ⟨own, B1, hO, hN, what, hB1, hB1H, hE1, cov⟩ := hE.thawY
  have thw : (Sl.tre (.ls ts)).thaw = .dat (.lst ds) := by
    show thawT (.ls ts) = _
    unfold thawT
    rw [Tr.d, ed] <;> rfl
  have ownA : ∀ q ∈ p :: A, own q := fun q hq => cov i _ _ _ et ho thw q ⟨_, _, rfl, w0, hq⟩
  have rp0 : RpAll K B1 vs0 ds := OwAll.rp hB1 ts vs0 A ds oa (fun q hq u hu => by rw [hO q (ownA q (List.mem_cons_of_mem _ hq))]; exact hu) ed
  have l1 : vs0.length = ts.length := OwAll.len oa
  obtain ⟨L, La, Lb, Lc, Ld⟩ := zip3 vs0 ts ds l1 (by rw [← rp0.len]; exact l1)
  have rpL := rpall_at rp0 La Lc
  let b : D → Bool := fun d => (keepT ft j vs en d).getD false
  have kb : ∀ z ∈ L, keepT ft j vs en z.2 = some (b z.2) := fun z hz => by
    have : (z.1.2, z.2) ∈ ts.zip ds := by rw [← Ld]; exact List.mem_map.mpr ⟨z, hz, rfl⟩
    have := List.all_eq_true.mp c1 _ this
    obtain ⟨y, hy⟩ := Option.isSome_iff_exists.mp this
    have hy : keepT ft j vs en z.2 = some y := hy
    show keepT ft j vs en z.2 = some ((keepT ft j vs en z.2).getD false)
    rw [hy] <;> rfl
  let zs : Z3 := L.filter fun z => b z.2
  have ezs : (ts.zip ds).filter (fun z => b z.2) = zs.map fun z => (z.1.2, z.2) := by
    rw [← Ld, List.filter_map] <;> rfl
  have len0 : L.length = vs0.length := by rw [← La, List.length_map]
  have dsl : L.length = ds.length := by rw [← Lc, List.length_map]
  -- the rows that are kept
  show tLc (tSeqAny K (tVar i)) (gName j) tt (tVar j) vs σ H fun x H1 => tNil σ H1 fun xs H2 => rSrt K (x :: xs) H2 fun z H3 => gName i z σ H3 fun σ' H' => Dn.nx σ' H'
  unfold tLc tSeqAny
  refine .inl ⟨_, ho, p, rfl, ⟨vs0, .inl (.inl hp)⟩, fun Dl hD => ?_⟩
  have pD : p ≠ Dl := fun z => by rw [z, hD] at hp; cases hp
  refine lc_list (a := p) (xs := vs0) (fun n M => ∃ B', Ext B1 H B' M ∧ B' Dl = none ∧ M Dl = some (.lst (((L.take n).filter fun z => b z.2).map (·.1.1)))) ⟨B1, Ext.newM hB1H hD, fresh_back hB1H hD, upd_same⟩
    (fun n M _ ⟨B', x, _, _⟩ => .inl (.inl (x.hh p _ hp))) (fun n u M hn ⟨B', x, hb, hM⟩ => ?_) (fun M ⟨B', x, hb, hM⟩ => ?_)
  · obtain ⟨z, hz, rfl⟩ : ∃ z, L[n]? = some z ∧ u = z.1.1 := by
      rw [← La, List.getElem?_map] at hn
      obtain ⟨z, h1, h2⟩ := omap hn
      exact ⟨z, h1, h2.symm⟩
    have hzL : z ∈ L := List.mem_of_getElem? hz
    refine (show gName j z.1.1 (L2.wipe σ vs) M _ from ⟨wipe_j hj, ?_⟩)
    have hEw := ((hE1.up x).wipe vs).set j ((rpL z hzL).up x.bb)
    refine ht _ _ _ _ _ _ (b z.2) hEw (kb z hzL) _ fun B2 M2 x2 => ?_
    have hM2 := x2.hh _ _ hM
    have hb2 : B2 Dl = none := (x2.st Dl (ne_some hM)).trans hb
    have tk : L.take (n + 1) = L.take n ++ [z] := by rw [List.take_add_one, hz] <;> rfl
    cases c : b z.2 with
    | true =>
      rw [if_pos rfl]
      have hjl2 : j < σ.length := by rw [hE.len]; exact c4
      refine ⟨z.1.1, by rw [List.getElem?_set_self (by rw [wipe_length]; exact hjl2)], _, hM2, lim_lt ?_, B2, ?_, hb2, ?_⟩
      · rw [List.length_map]
        have a := List.length_filter_le (fun z => b z.2) (L.take n)
        have d := List.length_take_le n L
        have d2 : (L.take n).length ≤ L.length := by rw [List.length_take]; omega
        omega
      · have x3 := x.trans x2
        exact ⟨x3.bb, Ex.mut x3.bh hb2, fun q u e => by rw [upd_ne (ne_of_none e hD)]; exact x3.hh q u e, x3.st⟩
      · rw [upd_same, tk, List.filter_append, List.filter_cons, if_pos c, List.filter_nil, List.map_append] <;> rfl
    | false =>
      rw [if_neg Bool.false_ne_true]
      refine ⟨B2, x.trans x2, hb2, ?_⟩
      rw [hM2, tk, List.filter_append, List.filter_cons, if_neg (by rw [c]; exact Bool.false_ne_true), List.filter_nil, List.append_nil]
  · -- sorted
    rw [← len0, List.take_length] at hM
    have em : (zs.map fun z => (z.1.1, z.2)).map (·.1) = zs.map (·.1.1) := by rw [List.map_map] <;> rfl
    refine ⟨Dl, zs.map fun z => (z.1.1, z.2), rfl, .inl (.inl (by rw [em]; exact hM)), fun y hy => ?_, ?_, fun p' hp' => ?_⟩
    · obtain ⟨z, hz, rfl⟩ := List.mem_map.mp hy
      have hzL := (List.mem_filter.mp hz).1
      have dp := (srt_parts c2).1
      refine Rp.dp z.2 58 z.1.1 (deepAll_mem dp z.2 ?_) ((rpL z hzL).up (x.bb.trans x.bh))
      have e2 : ((ts.zip ds).filter fun z => b z.2).map (·.2) = zs.map (·.2) := by rw [ezs, List.map_map] <;> rfl
      show z.2 ∈ ((ts.zip ds).filter fun z => b z.2).map (·.2)
      rw [e2]
      exact List.mem_map.mpr ⟨z, hz, rfl⟩
    · have e2 : ((ts.zip ds).filter fun z => b z.2).map (·.2) = (zs.map fun z => (z.1.1, z.2)).map (·.2) := by rw [ezs, List.map_map, List.map_map] <;> rfl
      rw [← e2]
      exact c2
    · let S : Z3 := zs.mergeSort fun x y => leD x.2 y.2
      have eS1 : ((zs.map fun z => (z.1.1, z.2)).mergeSort fun x y => leD x.2 y.2) = S.map fun z => (z.1.1, z.2) := (List.map_mergeSort (r := fun x y : (V × Tr) × D => leD x.2 y.2) (s := fun x y : V × D => leD x.2 y.2) (f := fun z : (V × Tr) × D => (z.1.1, z.2)) (fun _ _ _ _ => rfl)).symm
      have eS2 : (((ts.zip ds).filter fun z => b z.2).mergeSort fun x y => leD x.2 y.2) = S.map fun z => (z.1.2, z.2) := by
        rw [ezs]
        exact (List.map_mergeSort (r := fun x y : (V × Tr) × D => leD x.2 y.2) (s := fun x y : Tr × D => leD x.2 y.2) (f := fun z : (V × Tr) × D => (z.1.2, z.2)) (fun _ _ _ _ => rfl)).symm
      have eT : ((((ts.zip ds).filter fun z => (keepT ft j vs en z.2).getD false).mergeSort fun x y => leD x.2 y.2).map (·.1)) = (S.map (·.1)).map (·.2) := by
        show ((((ts.zip ds).filter fun z => b z.2).mergeSort fun x y => leD x.2 y.2).map (·.1)) = _
        rw [eS2, List.map_map, List.map_map] <;> rfl
      have eV : (((zs.map fun z => (z.1.1, z.2)).mergeSort fun x y => leD x.2 y.2).map (·.1)) = (S.map (·.1)).map (·.1) := by
        rw [eS1, List.map_map, List.map_map] <;> rfl
      rw [eV]
      -- what stays
      let B3 : Hp := fun q => if own q then B q else B' q
      have x3 : Ext B H B3 M := ⟨fun q u e => by
        show (if own q then B q else B' q) = some u
        by_cases hq : own q
        · rw [if_pos hq]; exact e
        · rw [if_neg hq]; exact x.bb _ _ (hB1 _ _ e), fun q u e => by
        have e : (if own q then B q else B' q) = some u := e
        by_cases hq : own q
        · rw [if_pos hq] at e; exact x.hh _ _ (hE.bh _ _ e)
        · rw [if_neg hq] at e; exact x.bh _ _ e, x.hh, fun q hq => by
        show (if own q then B q else B' q) = B q
        by_cases hq' : own q
        · rw [if_pos hq']
        · rw [if_neg hq', x.st q hq, hN q hq']⟩
      have x4 := x3.trans (Ext.newM (o := .lst ((S.map (·.1)).map (·.1))) x3.bh hp')
      have hE4 := hE.up x4
      have hHp : H p' = none := ext_fresh x3 hp'
      have oL : OwAll K B H ((L.map (·.1)).map (·.2)) ((L.map (·.1)).map (·.1)) A := by
        have e1 : (L.map (·.1)).map (·.2) = ts := by rw [List.map_map]; exact Lb
        have e2 : (L.map (·.1)).map (·.1) = vs0 := by rw [List.map_map]; exact La
        rw [e1, e2]
        exact oa
      obtain ⟨A1, o1', k1⟩ := OwAll.part (l' := zs.map (·.1)) ((List.filter_sublist).map _) oL
      obtain ⟨A2, o2', k2⟩ := OwAll.perm (l' := S.map (·.1)) ((List.mergeSort_perm zs _).symm.map _) o1'
      have o4 := OwAll.ext x4 _ _ _ o2'
      have kA : ∀ q ∈ A2, q ∈ A := fun q hq => k1 q (k2 q hq)
      have np : p' ∉ A2 := fun z => (OwAll.free _ _ _ o2' p' z).2.1 hHp
      have ow : Ow K B3 (upd M p' (.lst ((S.map (·.1)).map (·.1)))) (.ls ((S.map (·.1)).map (·.2))) (.ref p') (p' :: A2) := .ls (fresh_back x3.bh hp') upd_same o4 np
      have fts : ∀ q, Ft K B3 (upd M p' (.lst ((S.map (·.1)).map (·.1)))) (.tre (.ls ((S.map (·.1)).map (·.2)))) (some (.ref p')) q → q = p' ∨ q ∈ A := fun q ⟨v2, A3, e3, w3, hq⟩ => by
        cases e3
        rw [Ow.det _ _ _ _ w3 ow] at hq
        rcases List.mem_cons.mp hq with h | h
        · exact .inl h
        · exact .inr (kA q h)
      have ft0 : ∀ q ∈ A, Ft K B H (.tre (.ls ts)) (some (.ref p)) q := fun q hq => ⟨_, _, rfl, w0, List.mem_cons_of_mem _ hq⟩
      rw [eT] at k
      refine (show gName i (.ref p') σ _ _ from k _ B3 _ x4.bb (hE4.put i ⟨_, _, rfl, ow⟩ (fun q f => ?_) fun m sm om hm hm1 hm2 q f g => ?_))
      · rcases fts q f with rfl | h
        · exact fresh_back hE.ext.hh hHp
        · exact hE.frs i _ _ q et ho (ft0 q h)
      · have g' := (((hE.slot m sm om hm1 hm2).up' x4).2 q).mp g
        rcases fts q f with rfl | h
        · exact ((hE.slot m sm om hm1 hm2).free g').2.1 hHp
        · exact hm (hE.apart m i sm _ om _ q hm1 et hm2 ho g' (ft0 q h))
theorem ds_treS {X : Cx} {n i j : Nat} {y : Str} {py spos cpos lpos p : Pos} {elt iter tg : Expr} {ifs : List Expr} {scope : Scope} {own : List (Str × Nat)} {tt : TT} {ft : En → Option Bool} {f0 fe : En → Option D} (hK : X.K = K) (hr : Room n X.A) (hc : X.calm = true) (hgs : Gl X "sorted") (hm : X.mg "sorted" = none)
    (hN : X.N.Nodup) (hi : X.N[i]? = some y) (hx : Loc X.env.scope y) (hit : DE X iter (tVar i) f0) (ok : BlkOk X.N X.env.scope scope own)
    (hg : ∀ (s : Shared) (H : Hp) (C : Addr) (cl : List (Str × Addr)) (fp : List Addr), DG (X.blk s H scope (compEnvC scope cl C X.env) fp) tg (gName j) (gSet j) [j])
    (ht : ∀ (s : Shared) (H : Hp) (C : Addr) (cl : List (Str × Addr)) (fp : List Addr), DTs (X.blk s H scope (compEnvC scope cl C X.env) fp) ifs tt ft)
    (he : ∀ (s : Shared) (H : Hp) (C : Addr) (cl : List (Str × Addr)) (fp : List Addr), DE (X.blk s H scope (compEnvC scope cl C X.env) fp) elt (tVar j) fe)
    (hj : j ∈ own.map (·.2) := by decide) (hsub : ∀ k ∈ [j], k ∈ own.map (·.2) := by decide) (hsf : ∀ x, foldedSetIterable iter X.env x = pure x := by intro _; rfl)
    (hst : starEach [.ListComp elt [⟨tg, iter, ifs, 0⟩] scope lpos] X.env = (false, eval (.ListComp elt [⟨tg, iter, ifs, 0⟩] scope lpos) X.env) :: starEach [] X.env := by rfl) (hpl : (backTo cpos (starEach [] X.env)).any (·.1) = false := by rfl)
    (hs : swapsWith (.Call (.Name "sorted" p) [.ListComp elt [⟨tg, iter, ifs, 0⟩] scope lpos] [] cpos) (some (.Name y py)) spos.line X.env = pure false := by rfl) (hf : X.fn y = true ∨ X.env.scope.names.lookup y = some .local := by first | exact .inl rfl | exact .inr rfl | assumption) :
    DS X (.Assign [.Name y py] (.Call (.Name "sorted" p) [.ListComp elt [⟨tg, iter, ifs, 0⟩] scope lpos] [] cpos) spos) (tAsg (tCB (rSrt K) (tCons (tLc (tSeqAny K (tVar i)) (gName j) tt (tVar j) (own.map (·.2))) tNil)) (gName i)) (sTreS i j ft (own.map (·.2))) := by
  subst hK
  exact ⟨ps_set hN hi hx (dl_srt rfl hr hgs hm (DL.de (dl_lc hc hN (di_any hit) ok hg ht he hsub hsf)) hst hpl).p hs hf, cs_treS (ht {} (fun _ => none) 0 [] []).c hj⟩
def sPutK (i : Nat) (f1 : En → Option D) (F : En → Option (List D)) : En → Option Out := fun en => (F (en.map Sl.thaw)).bind fun ds => (f1 (en.map Sl.thaw)).bind fun a => match a, en[i]? with
  | .int z, some (.tre (.ls ts)) => if ds.all D.flat = true then (ixN ts.length z).map fun m => .nx (en.set i (.tre (.ls (ts.set m (.ls (ds.map .lf)))))) else none
  | _, _ => none
theorem rp_vals {B' : Hp} : ∀ {ds : List D}, ds.all D.flat = true → RpAll K B' (ds.map D.v) ds
  | [], _ => .nil
  | d :: ds, h => by
    rw [List.all_cons, Bool.and_eq_true] at h
    exact .cons (Rp.of_flat h.1) (rp_vals h.2)
open Classical in
theorem cs_putK {i : Nat} {te t1 : TE} {f1 : En → Option D} {F : En → Option (List D)} (h : CL K te F) (h1 : CE K t1 f1) : CS K (tAsg te (L2.gSub (tVar i) t1 rSetL)) (sPutK i f1 F) := fun B0 H0 B H σ en o hE e Dn k => by
  obtain ⟨ds, e1, e⟩ := obind e
  obtain ⟨a, e2, e⟩ := obind e
  split at e
  case h_2 => cases e
  rename_i z ts et
  by_cases fl : ds.all D.flat = true
  case neg => rw [if_neg fl] at e; cases e
  rw [if_pos fl] at e
  obtain ⟨m, em, rfl⟩ := omap e
  obtain ⟨o1, ho⟩ := hE.lt et
  obtain ⟨v, A0, rfl, w⟩ := hE.slot i _ o1 et ho
  have w0 := w
  cases w with
  | ls pb hp oa npA =>
  rename_i p vs0 A
  obtain ⟨own, B1, hO, hN, what, hB1, hB1H, hE1, cov⟩ := hE.thawY
  refine h _ _ _ _ _ _ ds hE1 e1 _ fun l ws B2 H2 x2 hl hb2 hl2 r2 => ?_
  refine ⟨.ref p, ho, ?_⟩
  refine h1 _ _ _ _ _ _ _ (hE1.up x2) e2 _ fun v3 B3 H3 x3 r3 => ?_
  cases r3
  have x := x2.trans x3
  have lm : m < ts.length := ixN_lt em
  have l1 : vs0.length = ts.length := OwAll.len oa
  refine ⟨p, vs0, z, m, rfl, rfl, x.hh _ _ hp, by rw [l1]; exact em, ?_⟩
  obtain rfl := r2.flat fl
  let B4 : Hp := fun q => if own q then B q else B3 q
  have x4 : Ext B H B4 H3 := ⟨fun q u e => by
    show (if own q then B q else B3 q) = some u
    by_cases hq : own q
    · rw [if_pos hq]; exact e
    · rw [if_neg hq]; exact x.bb _ _ (hB1 _ _ e), fun q u e => by
    have e : (if own q then B q else B3 q) = some u := e
    by_cases hq : own q
    · rw [if_pos hq] at e; exact x.hh _ _ (hE.bh _ _ e)
    · rw [if_neg hq] at e; exact x.bh _ _ e, x.hh, fun q hq => by
    show (if own q then B q else B3 q) = B q
    by_cases hq' : own q
    · rw [if_pos hq']
    · rw [if_neg hq', x.st q hq, hN q hq']⟩
  have b4l : B4 l = none := by
    show (if own l then B l else B3 l) = none
    by_cases hq : own l
    · rw [if_pos hq]; exact (what l hq).1
    · rw [if_neg hq]; exact (x3.st l (ne_some hl2)).trans hb2
  have hl3 := x3.hh _ _ hl2
  have plne : p ≠ l := fun z => by rw [z, hl] at hp; cases hp
  let H4 := upd H3 p (.lst (vs0.set m (.ref l)))
  have stay : ∀ q ∈ A, H4 q = H q ∧ B4 q = none := fun q hq => by
    obtain ⟨a1, a2⟩ := OwAll.free _ _ _ oa q hq
    refine ⟨?_, (x4.st q a2).trans a1⟩
    have ne : q ≠ p := fun z => npA (by rw [← z]; exact hq)
    show upd H3 p _ q = H q
    rw [upd_ne ne]
    cases c : H q with
    | none => exact absurd c a2.1
    | some u => exact x.hh q u c
  have kid : Ow K B4 H4 (.ls (ds.map .lf)) (.ref l) [l] := .ls (A := []) b4l (by show upd H3 p _ l = _; rw [upd_ne (Ne.symm plne)]; exact hl3) (OwAll.leaves (rp_vals fl)) List.not_mem_nil
  obtain ⟨u, Au, g1, g2, g3, g4⟩ := OwAll.hole oa (List.getElem?_eq_getElem lm)
  obtain ⟨A', o', f'⟩ := g4 B4 H4 (.ls (ds.map .lf)) (.ref l) [l] x4.bb (fun q hq _ => stay q hq) kid fun q hq => .inr (by rw [List.mem_singleton.mp hq]; exact hl)
  have pA' : p ∉ A' := fun z => (f' p z).elim npA fun z2 => by rw [z2] at hp; cases hp
  have ow : Ow K B4 H4 (.ls (ts.set m (.ls (ds.map .lf)))) (.ref p) (p :: A') := .ls ((x4.st p (ne_some hp)).trans pb) upd_same o' pA'
  have oldF : ∀ q, q ∈ p :: A → Ft K B4 H3 (.tre (.ls ts)) (some (.ref p)) q := fun q hq => (((hE.slot i _ _ et ho).up' x4).2 q).mpr ⟨_, _, rfl, w0, hq⟩
  refine (show Dn.nx σ H4 from k σ B4 H4 x4.bb ((hE.up x4).chgG et ho (fun q nf _ => upd_ne fun z => nf (oldF q (by rw [z]; exact List.mem_cons_self))) ⟨_, _, rfl, ow⟩ fun q f => ?_))
  obtain ⟨v5, A5, e5, w5, hq⟩ := f
  cases e5
  rw [Ow.det _ _ _ _ w5 ow] at hq
  rcases List.mem_cons.mp hq with rfl | hq
  · exact .inl (oldF _ List.mem_cons_self)
  · rcases f' q hq with h | h
    · exact .inl (oldF q (List.mem_cons_of_mem _ h))
    · have ql : q = l ∨ q ≠ l := Decidable.em _
      refine .inr ⟨fresh_back hE.ext.hh h, fun j sj oj a b => hE.nref h x4 j sj oj a b⟩
theorem ds_putK {X : Cx} {i : Nat} {x j e : Expr} {te tj : TE} {fj : En → Option D} {F : En → Option (List D)} {p1 pos' : Pos} (hx : PE X x (tVar i)) (hj : DE X j tj fj) (he : DL X e te F)
    (ha : ∀ v, assign (.Subscript x j p1) X.env v = (do
      let ov ← holding [v] (eval x X.env)
      let iv ← holding [v, ov] (eval j X.env)
      standAt p1
      holding [v, ov, iv] (setItem ov iv v)
      release [v, ov, iv] []) := by intro _; rfl)
    (hs : swapsWithSole [.Subscript x j p1] e pos'.line X.env = pure false := by rfl) (hw : swappedStores [.Subscript x j p1] e X.env = pure none := by rfl)
    (h1 : (assignEach [.Subscript x j p1] X.env).map (·.2) = [assign (.Subscript x j p1) X.env] := by rfl) :
    DS X (.Assign [.Subscript x j p1] e pos') (tAsg te (L2.gSub (tVar i) tj rSetL)) (sPutK i fj F) :=
  ⟨ps_asg he.p (pg_sub hx hj.p set_list ha) hs hw h1, cs_putK he.c hj.c⟩
end
end DD

namespace DD
open PySem L2
theorem seq {g h : En → Option Out} {en en' : En} {o : Out} (h1 : g en = some (.nx en')) (h2 : h en' = some o) : sSeq g h en = some o := by
  unfold sSeq
  rw [h1]
  exact h2
theorem seqR {g h : En → Option Out} {en : En} {d : D} (h1 : g en = some (.rt d)) : sSeq g h en = some (.rt d) := by
  unfold sSeq
  rw [h1] <;> rfl
theorem sifT {ft : En → Option Bool} {g h : En → Option Out} {en : En} {o : Option Out} (h1 : ft en = some true) (h2 : g en = o) : sIf ft g h en = o := by
  unfold sIf
  rw [h1]
  exact h2
theorem sifF {ft : En → Option Bool} {g h : En → Option Out} {en : En} {o : Option Out} (h1 : ft en = some false) (h2 : h en = o) : sIf ft g h en = o := by
  unfold sIf
  rw [h1]
  exact h2
theorem run_rt {g : En → Option Out} {n k : Nat} {ds : List D} {d : D} (hl : ds.length = k) (h : g (entry n ds) = some (.rt d)) : runD g n k ds = some d := by
  unfold runD
  rw [if_pos hl, h] <;> rfl
theorem forGo_run {gd : D → En → Option En} {g : En → Option Out} (I : Nat → En → Prop) : ∀ (ds : List D) (j : Nat) (en : En), I j en →
    (∀ (i : Nat) (d : D) (en : En), ds[i]? = some d → I (j + i) en → ∃ en1 en2, gd d en = some en1 ∧ (g en1 = some (.nx en2) ∨ g en1 = some (.ct en2)) ∧ I (j + i + 1) en2) → ∃ en', forGo gd g ds en = some (.nx en') ∧ I (j + ds.length) en'
  | [], j, en, h0, _ => ⟨en, rfl, h0⟩
  | d :: r, j, en, h0, h => by
    obtain ⟨en1, en2, h1, h2, h3⟩ := h 0 d en rfl h0
    obtain ⟨en', h4, h5⟩ := forGo_run I r (j + 1) en2 h3 fun i d' en hd hi => by
      have q := h (i + 1) d' en (by simpa using hd) (by rw [show j + (i + 1) = j + 1 + i by omega]; exact hi)
      rw [show j + (i + 1) = j + 1 + i by omega] at q
      exact q
    refine ⟨en', ?_, by rw [List.length_cons, show j + (r.length + 1) = j + 1 + r.length by omega]; exact h5⟩
    unfold forGo
    rw [h1]
    rcases h2 with h2 | h2
    · show (g en1).bind _ = _
      rw [h2]
      exact h4
    · show (g en1).bind _ = _
      rw [h2]
      exact h4
theorem sfor {fi : En → Option (List D)} {gd : D → En → Option En} {g : En → Option Out} {en : En} (ds : List D) (hi : fi en = some ds) (I : Nat → En → Prop) (h0 : I 0 en)
    (h : ∀ (i : Nat) (d : D) (en : En), ds[i]? = some d → I i en → ∃ en1 en2, gd d en = some en1 ∧ (g en1 = some (.nx en2) ∨ g en1 = some (.ct en2)) ∧ I (i + 1) en2) : ∃ en', sFor fi gd g en = some (.nx en') ∧ I ds.length en' := by
  obtain ⟨en', h1, h2⟩ := forGo_run I ds 0 en h0 fun i d en hd hI => by
    rw [Nat.zero_add] at hI ⊢
    exact h i d en hd hI
  rw [Nat.zero_add] at h2
  refine ⟨en', ?_, h2⟩
  unfold sFor
  rw [hi]
  exact h1
theorem atI_map {α β : Type} (f : α → β) (xs : List α) (k : Nat) : atI (xs.map f) (k : Int) = (xs[k]?).map f := by
  unfold atI ixN
  by_cases h : k < xs.length
  · rw [List.length_map, if_pos (by omega), if_pos (by omega)]
    simp
  · rw [List.length_map, if_pos (by omega), if_neg (by omega)]
    rw [List.getElem?_eq_none (by omega)]
    rfl
mutual
theorem eqv_same : ∀ (d : D) (n : Nat), deep n d = true → PyData.eqv (py d) (py d) = true
  | .non, _, _ => by simp [py, PyData.eqv]
  | .bl _, _, _ => by simp [py, PyData.eqv]
  | .int _, _, _ => by simp [py, PyData.eqv]
  | .str _, _, _ => by simp [py, PyData.eqv]
  | .lst ds, 0, h => by simp [deep] at h
  | .tup ds, 0, h => by simp [deep] at h
  | .lst ds, n + 1, h => by simp only [py, PyData.eqv]; exact eqv_sameA ds n (by simpa [deep] using h)
  | .tup ds, n + 1, h => by simp only [py, PyData.eqv]; exact eqv_sameA ds n (by simpa [deep] using h)
  | .dic _ _, _, h => by simp [deep] at h
  | .dit _ _, _, h => by simp [deep] at h
  | .fn _, _, h => by simp [deep] at h
  | .ctp _, _, h => by simp [deep] at h
theorem eqv_sameA : ∀ (ds : List D) (n : Nat), deepAll n ds = true → PyData.eqvAll (pyAll ds) (pyAll ds) = true
  | [], _, _ => by simp [pyAll, PyData.eqvAll]
  | d :: ds, n, h => by
    rw [deepAll, Bool.and_eq_true] at h
    simp only [pyAll, PyData.eqvAll]
    rw [eqv_same d n h.1, eqv_sameA ds n h.2] <;> rfl
end
theorem gNe_same {d : D} (h : deep 60 d = true) : gNe d d = some (.bl false) := by
  unfold gNe
  rw [if_pos ⟨h, h⟩, eqv_same d 60 h] <;> rfl
theorem deepAll_iff {n : Nat} : ∀ {ds : List D}, deepAll n ds = true ↔ ∀ d ∈ ds, deep n d = true
  | [] => by simp [deepAll]
  | d :: ds => by
    rw [deepAll, Bool.and_eq_true, deepAll_iff (ds := ds)]
    simp
theorem deep_tup {n : Nat} {ds : List D} : deep (n + 1) (.tup ds) = true ↔ ∀ d ∈ ds, deep n d = true := by rw [deep, deepAll_iff]
theorem deep_lst {n : Nat} {ds : List D} : deep (n + 1) (.lst ds) = true ↔ ∀ d ∈ ds, deep n d = true := by rw [deep, deepAll_iff]
theorem deep_str {n : Nat} {x : Str} : deep n (.str x) = PyData.strOk x := by cases n <;> simp [deep]
theorem deep_int {n : Nat} {x : Int} : deep n (.int x) = true := by cases n <;> simp [deep]
theorem dVar_of {i : Nat} {en : En} {d : D} (h : en[i]? = some (.dat d)) : dVar i en = some d := by unfold dVar; rw [h]
end DD

namespace C
open PySem DD L2
def g__law_cell : En → Option Out := (sSeq (sIf (tBl (d2 gLt (dVar 1) (dCB gLen (aCons (dVar 0) aNil)))) (sRet (d2 gIx (dVar 0) (dVar 1))) sNil)
 (sRet (dC (.int 0))))
def F__law_cell : List D → Option D := runD g__law_cell 2 2
def g__law_draw : En → Option Out := (sSeq (sSet 3 (dCall F__law_cell (aCons (dVar 0) (aCons (dVar 1) aNil))))
 (sSeq (sIf (tBl (d2 gLt (dVar 3) (dC (.int 0)))) (sSet 3 (d1 gNeg (dVar 3))) sNil)
 (sSeq (sOwn 4 (lLst aNil))
 (sSeq (sIf (tBl (d2 gGe (dVar 3) (d2 gPow (dC (.int 10)) (dC (.int 18))))) (sSeq (sSet 3 (d2 gSub (dVar 3) (d2 gPow (dC (.int 10)) (dC (.int 18)))))
 (sSeq (sFor (iAny (dVar 2)) (gSet 7) (sSeq (sApp 4 (d2 gMod (dVar 3) (dVar 7)))
 (sSet 3 (d2 gFdiv (dVar 3) (dVar 7)))))
 (fun en => (sRet (dVar 4)) (frz 4 en)))) sNil)
 (sSeq (sSet 5 (d2 gMod (d2 gAdd (d2 gAdd (dVar 3) (dC (.int 1))) (d2 gMulI (dC (.int 31)) (dVar 1))) (dC (.int 2147483647))))
 (sSeq (sFor (iR1 (aCons (dCB gLen (aCons (dVar 2) aNil)) aNil)) (gSet 6) (sSeq (sSet 5 (d2 gMod (d2 gAdd (d2 gAdd (d2 gMulI (dVar 5) (dC (.int 48271))) (dC (.int 11))) (dVar 6)) (dC (.int 2147483647))))
 (sSeq (sSet 5 (d2 gMod (d2 gAdd (d2 gMulI (dVar 5) (dC (.int 69621))) (dC (.int 3))) (dC (.int 2147483647))))
 (sApp 4 (d2 gMod (d2 gFdiv (dVar 5) (dC (.int 7))) (d2 gIx (dVar 2) (dVar 6)))))))
 (fun en => (sRet (dVar 4)) (frz 4 en))))))))
def F__law_draw : List D → Option D := runD g__law_draw 8 3
theorem cell_ok (ns : List Int) (k : Nat) : F__law_cell [.lst (ns.map D.int), .int k] = some (.int (ns.getD k 0)) := by
  refine run_rt rfl ?_
  unfold g__law_cell
  by_cases h : k < ns.length
  · refine seqR (sifT (by simp [h]) (by simp [atI_map, h]))
  · refine seq (sifF (by simp [h]) rfl) (by simp [h])
theorem int_get {ds : List Int} {i : Nat} {d : D} (h : (ds.map D.int)[i]? = some d) : ∃ z : Int, d = .int z ∧ ds[i]? = some z := by
  rw [List.getElem?_map] at h
  obtain ⟨z, h1, rfl⟩ := omap h
  exact ⟨z, rfl, h1⟩
def Below (sizes ds : List Int) : Prop := ∀ (i : Nat) (a b : Int), ds[i]? = some a → sizes[i]? = some b → 0 ≤ a ∧ a < b
theorem Below.snoc {sizes ds : List Int} {a b : Int} (h : Below sizes ds) (hb : sizes[ds.length]? = some b) (h0 : 0 ≤ a) (h1 : a < b) : Below sizes (ds ++ [a]) := by
  intro i x y hx hy
  by_cases hi : i < ds.length
  · rw [List.getElem?_append_left hi] at hx
    exact h i x y hx hy
  · by_cases he : i = ds.length
    · subst he
      rw [List.getElem?_append_right (Nat.le_refl _), Nat.sub_self] at hx
      rw [hb] at hy
      cases hx; cases hy
      exact ⟨h0, h1⟩
    · rw [List.getElem?_eq_none (by rw [List.length_append]; simp; omega)] at hx
      cases hx
theorem draw_ok (ns : List Int) (k : Nat) (sizes : List Int) (hk : k ≤ 1000) (hs : ∀ z ∈ sizes, 0 < z ∧ z < 1000) (hl : sizes.length ≤ 100) : ∃ ds : List Int, F__law_draw [.lst (ns.map D.int), .int k, .lst (sizes.map D.int)] = some (.lst (ds.map D.int)) ∧ ds.length = sizes.length ∧ Below sizes ds := by
  suffices h : ∃ ds : List Int, g__law_draw (entry 8 [.lst (ns.map D.int), .int k, .lst (sizes.map D.int)]) = some (.rt (.lst (ds.map D.int))) ∧ ds.length = sizes.length ∧ Below sizes ds by
    obtain ⟨ds, h1, h2⟩ := h
    exact ⟨ds, run_rt rfl h1, h2⟩
  unfold g__law_draw
  have hc : ∃ c0 : Int, sIf (tBl (d2 gLt (dVar 3) (dC (.int 0)))) (sSet 3 (d1 gNeg (dVar 3))) sNil [.dat (.lst (ns.map D.int)), .dat (.int k), .dat (.lst (sizes.map D.int)), .dat (.int (ns.getD k 0)), .no, .no, .no, .no] = some (.nx [.dat (.lst (ns.map D.int)), .dat (.int k), .dat (.lst (sizes.map D.int)), .dat (.int c0), .no, .no, .no, .no]) := by
    by_cases h : ns.getD k 0 < 0
    · exact ⟨_, sifT (by simp at h; simp [h]) (by simp <;> rfl)⟩
    · exact ⟨_, sifF (by simp at h; simp [h]) rfl⟩
  obtain ⟨c0, hc⟩ := hc
  by_cases hbig : (1000000000000000000 : Int) ≤ c0
  · obtain ⟨en', h1, h2⟩ := sfor (fi := iAny (dVar 2)) (gd := gSet 7) (g := sSeq (sApp 4 (d2 gMod (dVar 3) (dVar 7))) (sSet 3 (d2 gFdiv (dVar 3) (dVar 7))))
      (en := [.dat (.lst (ns.map D.int)), .dat (.int k), .dat (.lst (sizes.map D.int)), .dat (.int (c0 - 1000000000000000000)), .own [], .no, .no, .no]) (sizes.map D.int) (by simp)
      (fun i en => ∃ (c : Int) (s7 : Sl) (ds : List Int), en = [.dat (.lst (ns.map D.int)), .dat (.int k), .dat (.lst (sizes.map D.int)), .dat (.int c), .own (ds.map D.int), .no, .no, s7] ∧ ds.length = i ∧ Below sizes ds)
      ⟨_, _, [], rfl, rfl, fun i a b h => by simp at h⟩ (fun i d en hd hI => by
        obtain ⟨c, s7, ds, rfl, hi, hB⟩ := hI
        obtain ⟨z, rfl, hz⟩ := int_get hd
        obtain ⟨z0, z1⟩ := hs z (List.mem_of_getElem? hz)
        have hlen : ds.length < sizes.length := by have := (List.getElem?_eq_some_iff.mp hz).1; omega
        have hlim : ds.length ≤ lim := by show ds.length ≤ 1000000; omega
        refine ⟨_, [.dat (.lst (ns.map D.int)), .dat (.int k), .dat (.lst (sizes.map D.int)), .dat (.int (c / z)), .own ((ds ++ [c % z]).map D.int), .no, .no, .dat (.int z)], rfl, .inl ?_, ⟨_, _, ds ++ [c % z], rfl, by simp [hi], hB.snoc (b := z) (by rw [hi]; exact hz) (Int.emod_nonneg _ (by omega)) (Int.emod_lt_of_pos _ z0)⟩⟩
        refine seq (by simp [z0]; exact ⟨hlim, rfl⟩) ?_
        simp [z0]
        omega)
    obtain ⟨c, s7, ds, rfl, hi, hB⟩ := h2
    refine ⟨ds, seq (by simp [cell_ok] <;> rfl) (seq (by simpa using hc) (seq (by simp <;> rfl) (seqR (sifT (by simp [hbig]) (seq (by simp <;> rfl) (seq h1 (by simp))))))), by simpa using hi, hB⟩
  · obtain ⟨en', h1, h2⟩ := sfor (fi := iR1 (aCons (dCB gLen (aCons (dVar 2) aNil)) aNil)) (gd := gSet 6) (g := sSeq (sSet 5 (d2 gMod (d2 gAdd (d2 gAdd (d2 gMulI (dVar 5) (dC (.int 48271))) (dC (.int 11))) (dVar 6)) (dC (.int 2147483647))))
       (sSeq (sSet 5 (d2 gMod (d2 gAdd (d2 gMulI (dVar 5) (dC (.int 69621))) (dC (.int 3))) (dC (.int 2147483647)))) (sApp 4 (d2 gMod (d2 gFdiv (dVar 5) (dC (.int 7))) (d2 gIx (dVar 2) (dVar 6))))))
      (en := [.dat (.lst (ns.map D.int)), .dat (.int k), .dat (.lst (sizes.map D.int)), .dat (.int c0), .own [], .dat (.int ((c0 + 1 + 31 * k) % 2147483647)), .no, .no]) (rngD 0 1 sizes.length) (by
        simp
        omega)
      (fun i en => ∃ (m : Int) (s6 : Sl) (ds : List Int), en = [.dat (.lst (ns.map D.int)), .dat (.int k), .dat (.lst (sizes.map D.int)), .dat (.int c0), .own (ds.map D.int), .dat (.int m), s6, .no] ∧ ds.length = i ∧ Below sizes ds)
      ⟨_, _, [], rfl, rfl, fun i a b h => by simp at h⟩ (fun i d en hd hI => by
        obtain ⟨m, s6, ds, rfl, hi, hB⟩ := hI
        obtain ⟨hlt, rfl⟩ := rngD_get hd
        obtain ⟨z, hz⟩ : ∃ z, sizes[i]? = some z := ⟨_, List.getElem?_eq_getElem hlt⟩
        obtain ⟨z0, z1⟩ := hs z (List.mem_of_getElem? hz)
        have hlim : ds.length ≤ lim := by show ds.length ≤ 1000000; omega
        have e0 : (0 : Int) + (i : Int) * 1 = (i : Int) := by omega
        rw [e0]
        generalize hm1 : ((m * 48271 + 11 + (i : Int)) % 2147483647 * 69621 + 3) % 2147483647 = m1
        refine ⟨_, [.dat (.lst (ns.map D.int)), .dat (.int k), .dat (.lst (sizes.map D.int)), .dat (.int c0), .own ((ds ++ [m1 / 7 % z]).map D.int), .dat (.int m1), .dat (.int i), .no], rfl, .inl ?_, ⟨_, _, ds ++ [m1 / 7 % z], rfl, by simp [hi], hB.snoc (b := z) (by rw [hi]; exact hz) (Int.emod_nonneg _ (by omega)) (Int.emod_lt_of_pos _ z0)⟩⟩
        refine seq (by simp <;> rfl) (seq (by simp <;> rfl) ?_)
        simp [atI_map, hz, z0, hm1]
        exact hlim)
    obtain ⟨m, s6, ds, rfl, hi, hB⟩ := h2
    refine ⟨ds, seq (by simp [cell_ok] <;> rfl) (seq (by simpa using hc) (seq (by simp <;> rfl) (seq (sifF (by simp [hbig]) rfl) (seq (by simp <;> exact ⟨by omega, rfl⟩) (seq h1 (by simp)))))), by simpa [rngD_len] using hi, hB⟩

structure PatOk {α : Type} (cs : List α) (h w : Nat) (p : List (List α)) : Prop where
  rows : p.length = h
  cols : ∀ r ∈ p, r.length = w
  cell : ∀ r ∈ p, ∀ c ∈ r, c ∈ cs
theorem below_at {sizes ds : List Int} (hB : Below sizes ds) (hl : ds.length = sizes.length) {i : Nat} {b : Int} (hb : sizes[i]? = some b) : ∃ a : Nat, ds[i]? = some (a : Int) ∧ (a : Int) < b := by
  have hi : i < ds.length := by rw [hl]; exact (List.getElem?_eq_some_iff.mp hb).1
  obtain ⟨h0, h1⟩ := hB i ds[i] b (List.getElem?_eq_getElem hi) hb
  exact ⟨ds[i].toNat, by rw [List.getElem?_eq_getElem hi]; congr 1; omega, by omega⟩
inductive Cell where
  | pl (a : Nat) | dg (a : Nat) (s : Bool) (b : Nat)
  deriving DecidableEq
def Cell.s : Cell → Str
  | .pl a => ⟨#[a]⟩
  | .dg a s b => ⟨#[a, if s then 92 else 47, b]⟩
def Cell.f1 : Cell → Nat
  | .pl a => a
  | .dg a _ _ => a
def Cell.f2 : Cell → Nat
  | .pl a => a
  | .dg _ _ b => b
def sgn (a : Nat) : Str := ⟨#[a]⟩
end C

namespace C
open PySem DD L2
end C

namespace C
open PySem DD L2
theorem lcGo_xs {α : Type} {gd : D → En → Option En} {fe : En → Option D} {en : En} (f k : α → D) : ∀ (xs : List α), (∀ x ∈ xs, ∃ en1, gd (f x) en = some en1 ∧ fe en1 = some (k x)) → lcGo gd fYes fe en (xs.map f) = some (xs.map k)
  | [], _ => rfl
  | x :: r, H => by
    obtain ⟨en1, h1, h2⟩ := H x List.mem_cons_self
    rw [List.map_cons, List.map_cons]
    unfold lcGo
    rw [h1]
    show (fe en1).bind _ = _
    rw [h2]
    show (lcGo gd fYes fe en (r.map f)).map _ = _
    rw [lcGo_xs f k r fun d' hd => H d' (List.mem_cons_of_mem _ hd)] <;> rfl
section
variable {α : Type}
structure RectG (h w : Nat) (p : List (List α)) : Prop where
  rows : p.length = h
  cols : ∀ r ∈ p, r.length = w
def widthG : List (List α) → Nat
  | [] => 0
  | r :: _ => r.length
theorem RectG.width {h w : Nat} {p : List (List α)} (R : RectG h w p) (h1 : 1 ≤ h) : widthG p = w := by
  cases p with
  | nil => have := R.rows; simp at this; omega
  | cons r p => exact R.cols r List.mem_cons_self
def Ten (p : List (List α)) : Prop := ∃ h w, RectG h w p ∧ 1 ≤ h ∧ h ≤ 10 ∧ 1 ≤ w ∧ w ≤ 10
theorem Ten.le {p : List (List α)} (k : Ten p) : 1 ≤ p.length ∧ p.length ≤ 10 ∧ ∀ r ∈ p, 1 ≤ r.length ∧ r.length ≤ 10 := by
  obtain ⟨h, w, R, a, b, c, d⟩ := k
  exact ⟨by rw [R.rows]; exact a, by rw [R.rows]; exact b, fun r hr => by rw [R.cols r hr]; exact ⟨c, d⟩⟩
end
structure Rect (h w : Nat) (p : List (List Cell)) : Prop where
  rows : p.length = h
  cols : ∀ r ∈ p, r.length = w
theorem Rect.g {h w : Nat} {p : List (List Cell)} (R : Rect h w p) : RectG h w p := ⟨R.rows, R.cols⟩
abbrev cz : Cell := .pl 0
theorem Rect.width {h w : Nat} {p : List (List Cell)} (R : Rect h w p) (h1 : 1 ≤ h) : widthG p = w := RectG.width R.g h1
theorem getD_at {α : Type} {l : List α} {i : Nat} {x : α} (h : i < l.length) : l.getD i x = l[i] := by
  rw [List.getD_eq_getElem?_getD, List.getElem?_eq_getElem h] <;> rfl
end C

namespace C
open PySem DD L2
def at2 (p : List (List Cell)) (r c : Nat) : Cell := (p.getD r []).getD c (.pl 0)
section
variable {p : List (List Cell)}
end
end C

namespace C
open PySem DD L2
theorem pyAll_map {α : Type} (f : α → D) : ∀ xs : List α, pyAll (xs.map f) = xs.map fun x => py (f x)
  | [] => by simp [pyAll]
  | x :: xs => by
    rw [List.map_cons, List.map_cons, pyAll, pyAll_map f xs]
theorem lcGo_ft {α : Type} {gd : D → En → Option En} {ft : En → Option Bool} {fe : En → Option D} {en : En} (f k : α → D) (b : α → Bool) : ∀ (xs : List α), (∀ x ∈ xs, ∃ en1, gd (f x) en = some en1 ∧ ft en1 = some (b x) ∧ fe en1 = some (k x)) → lcGo gd ft fe en (xs.map f) = some ((xs.filter b).map k)
  | [], _ => rfl
  | x :: r, H => by
    obtain ⟨en1, h1, h2, h3⟩ := H x List.mem_cons_self
    have ih := lcGo_ft f k b r fun d' hd => H d' (List.mem_cons_of_mem _ hd)
    rw [List.map_cons]
    unfold lcGo
    rw [h1]
    show (ft en1).bind _ = _
    rw [h2]
    show (if b x = true then _ else _) = _
    by_cases hb : b x = true
    · rw [if_pos hb, h3, List.filter_cons_of_pos hb]
      show (lcGo gd ft fe en (r.map f)).map _ = _
      rw [ih] <;> rfl
    · rw [if_neg hb, List.filter_cons_of_neg hb]
      exact ih
theorem lLc_ft {α : Type} {fi : En → Option (List D)} {gd : D → En → Option En} {ft : En → Option Bool} {fe : En → Option D} {vs : List Nat} {en : En} (f k : α → D) (b : α → Bool) (xs : List α) (hi : fi en = some (xs.map f)) (hl : xs.length ≤ 1000)
    (H : ∀ x ∈ xs, ∃ en1, gd (f x) (wipeE en vs) = some en1 ∧ ft en1 = some (b x) ∧ fe en1 = some (k x)) : lLc fi gd ft fe vs en = some ((xs.filter b).map k) := by
  unfold lLc
  rw [hi]
  show (if (xs.map f).length ≤ lim then _ else _) = _
  rw [if_pos (by rw [List.length_map]; exact Nat.le_trans hl (by decide))]
  exact lcGo_ft f k b xs H
end C

namespace C
open PySem DD L2
section
variable {α : Type} [DecidableEq α] {f : α → PyData} {lt : α → α → Bool}
end
def slN : Cell → Nat
  | .pl _ => 0
  | .dg _ false _ => 1
  | .dg _ true _ => 2
def slS : Cell → Str
  | .pl _ => ""
  | .dg _ false _ => "/"
  | .dg _ true _ => "\\"
def kC (c : Cell) : D := .tup [.str (slS c), .str (sgn c.f1), .str (sgn c.f2)]
def rI (c : Cell) : Int := (slN c : Int)
def r3 : Cell → Str
  | .pl _ => ""
  | .dg _ _ b => sgn b
abbrev pk (c : Cell) : PyData := py (kC c)
end C

namespace C
open PySem DD L2
theorem ixN_nat {n m : Nat} (h : m < n) : ixN n (m : Int) = some m := by
  unfold ixN
  rw [if_pos (by omega), if_pos (by omega)]
  congr 1
end C

namespace C
open PySem DD L2
section
variable {α β : Type}
def gridF (h w : Nat) (f : Nat → Nat → α) : List (List α) := (List.range h).map fun x => (List.range w).map fun y => f x y
theorem gridF_ext {h w : Nat} {f g : Nat → Nat → α} (H : ∀ x y, x < h → y < w → f x y = g x y) : gridF h w f = gridF h w g :=
  List.map_congr_left fun x hx => List.map_congr_left fun y hy => H x y (List.mem_range.mp hx) (List.mem_range.mp hy)
theorem row_of (z : α) (r : List α) : r = (List.range r.length).map fun y => r.getD y z := by
  refine List.ext_getElem (by rw [List.length_map, List.length_range]) fun i h1 h2 => ?_
  rw [List.getElem_map, List.getElem_range, C.getD_at h1]
theorem gridF_of {h w : Nat} {p : List (List α)} (z : α) (R : RectG h w p) : p = gridF h w fun x y => (p.getD x []).getD y z := by
  unfold gridF
  refine List.ext_getElem (by rw [List.length_map, List.length_range, R.rows]) fun i h1 h2 => ?_
  rw [List.getElem_map, List.getElem_range]
  show p[i] = (List.range w).map fun y => (p.getD i []).getD y z
  rw [C.getD_at h1]
  have hw := R.cols _ (List.getElem_mem h1)
  conv => lhs; rw [row_of z p[i]]
  rw [hw]
end
structure SqM (s R C : Nat) (M : List (List (List (List Cell)))) : Prop where
  rect : RectG R C M
  sq : ∀ r ∈ M, ∀ p ∈ r, Rect s s p
theorem SqM.fn {s R C : Nat} {M : List (List (List (List Cell)))} (k : SqM s R C M) : ∃ f : Nat → Nat → Nat → Nat → Cell, M = gridF R C fun i j => gridF s s (f i j) := by
  refine ⟨fun i j a b => at2 ((M.getD i []).getD j []) a b, ?_⟩
  conv => lhs; rw [gridF_of [] k.rect]
  refine gridF_ext fun i j hi hj => ?_
  have h1 : i < M.length := by rw [k.rect.rows]; exact hi
  have h2 : j < M[i].length := by rw [k.rect.cols _ (List.getElem_mem h1)]; exact hj
  have e : (M.getD i []).getD j [] = M[i][j] := by rw [_root_.C.getD_at h1, _root_.C.getD_at h2]
  show _ = gridF s s fun a b => at2 ((M.getD i []).getD j []) a b
  rw [e]
  exact gridF_of cz (k.sq _ (List.getElem_mem h1) _ (List.getElem_mem h2)).g
end C

namespace C
open PySem DD L2
def g__law_pieces : En → Option Out := (sSeq (sSet 2 (dCall F__law_draw (aCons (dVar 0) (aCons (dVar 1) (aCons (dL (lCat (lLst (aCons (dC (.int 5)) (aCons (dC (.int 5)) (aCons (dC (.int 4)) aNil)))) (lRep (lLst (aCons (dC (.int 6)) aNil)) (dC (.int 24))))) aNil)))))
 (sSeq (sSet 3 (dL (lLst (aCons (dTup (aCons (dC (.int 0)) (aCons (dC (.int 0)) (aCons (d2 gAdd (dC (.int 1)) (d2 gIx (dVar 2) (dC (.int 0)))) (aCons (d2 gAdd (dC (.int 1)) (d2 gIx (dVar 2) (dC (.int 1)))) aNil))))) aNil))))
 (sSeq (sIf (tAnd2 (tBl (d2 gEq (d2 gIx (dVar 2) (dC (.int 2))) (dC (.int 0)))) (tAnd2 (tBl (d2 gGt (d2 gIx (dVar 2) (dC (.int 0))) (dC (.int 1)))) (tBl (d2 gGt (d2 gIx (dVar 2) (dC (.int 1))) (dC (.int 1)))))) (sSeq (sSet 5 (d2 gIx (dVar 2) (dC (.int 0))))
 (sSeq (sSet 6 (d2 gIx (dVar 2) (dC (.int 1))))
 (sSet 3 (dL (lLst (aCons (dTup (aCons (dC (.int 0)) (aCons (dC (.int 0)) (aCons (dC (.int 1)) (aCons (dVar 6) aNil))))) (aCons (dTup (aCons (dC (.int 0)) (aCons (dVar 6) (aCons (dVar 5) (aCons (dC (.int 1)) aNil))))) (aCons (dTup (aCons (dC (.int 1)) (aCons (dC (.int 0)) (aCons (dVar 5) (aCons (dC (.int 1)) aNil))))) (aCons (dTup (aCons (dC (.int 1)) (aCons (dC (.int 1)) (aCons (d2 gSub (dVar 5) (dC (.int 1))) (aCons (d2 gSub (dVar 6) (dC (.int 1))) aNil))))) (aCons (dTup (aCons (dVar 5) (aCons (dC (.int 1)) (aCons (dC (.int 1)) (aCons (dVar 6) aNil))))) aNil)))))))))) sNil)
 (sSeq (sFor (iR1 (aCons (dC (.int 8)) aNil)) (gSet 4) (sSeq (sSet 7 (dCutA (dVar 2) (oInt (d2 gAdd (dC (.int 3)) (d2 gMulI (dC (.int 3)) (dVar 4)))) (oInt (d2 gAdd (dC (.int 6)) (d2 gMulI (dC (.int 3)) (dVar 4))))))
 (sSeq (sSet 8 (d2 gMod (d2 gIx (dVar 7) (dC (.int 0))) (dCB gLen (aCons (dVar 3) aNil))))
 (sSeq (sAsgG (d2 gIx (dVar 3) (dVar 8)) (gTupD (gsCons (gSet 9) (gsCons (gSet 10) (gsCons (gSet 11) (gsCons (gSet 12) gsNil)))) 4))
 (sIf (tAnd2 (tBl (d2 gLt (d2 gIx (dVar 7) (dC (.int 1))) (dC (.int 3)))) (tBl (d2 gGt (dVar 11) (dC (.int 1))))) (sSeq (sSet 13 (d2 gAdd (dC (.int 1)) (d2 gMod (d2 gIx (dVar 7) (dC (.int 2))) (d2 gSub (dVar 11) (dC (.int 1))))))
 (sSet 3 (dL (lCat (lCat (lCutL (dVar 3) oNo (oInt (dVar 8))) (lLst (aCons (dTup (aCons (dVar 9) (aCons (dVar 10) (aCons (dVar 13) (aCons (dVar 12) aNil))))) (aCons (dTup (aCons (d2 gAdd (dVar 9) (dVar 13)) (aCons (dVar 10) (aCons (d2 gSub (dVar 11) (dVar 13)) (aCons (dVar 12) aNil))))) aNil)))) (lCutL (dVar 3) (oInt (d2 gAdd (dVar 8) (dC (.int 1)))) oNo))))) (sIf (tAnd2 (tBl (d2 gLt (d2 gIx (dVar 7) (dC (.int 1))) (dC (.int 5)))) (tBl (d2 gGt (dVar 12) (dC (.int 1))))) (sSeq (sSet 13 (d2 gAdd (dC (.int 1)) (d2 gMod (d2 gIx (dVar 7) (dC (.int 2))) (d2 gSub (dVar 12) (dC (.int 1))))))
 (sSet 3 (dL (lCat (lCat (lCat (lLst (aCons (dTup (aCons (dVar 9) (aCons (d2 gAdd (dVar 10) (dVar 13)) (aCons (dVar 11) (aCons (d2 gSub (dVar 12) (dVar 13)) aNil))))) aNil)) (lCutL (dVar 3) oNo (oInt (dVar 8)))) (lCutL (dVar 3) (oInt (d2 gAdd (dVar 8) (dC (.int 1)))) oNo)) (lLst (aCons (dTup (aCons (dVar 9) (aCons (dVar 10) (aCons (dVar 11) (aCons (dVar 13) aNil))))) aNil)))))) sNil))))))
 (sRet (dCB gTuple (aCons (dVar 3) aNil)))))))
def F__law_pieces : List D → Option D := runD g__law_pieces 14 2
structure Rc where
  t : Nat
  l : Nat
  h : Nat
  w : Nat
def inR (x y : Nat) (r : Rc) : Bool := decide (r.t ≤ x ∧ x < r.t + r.h ∧ r.l ≤ y ∧ y < r.l + r.w)
structure Tile (H W : Nat) (ps : List Rc) : Prop where
  pos : ∀ r ∈ ps, 1 ≤ r.h ∧ 1 ≤ r.w ∧ r.t + r.h ≤ H ∧ r.l + r.w ≤ W
  one : ∀ x y, x < H → y < W → ps.countP (inR x y) = 1
theorem countP_one (p : Rc → Bool) (r : Rc) : [r].countP p = if p r = true then 1 else 0 := by
  rw [List.countP_cons, List.countP_nil, Nat.zero_add]
theorem Tile.cut {H W : Nat} {A Z B : List Rc} {r a b : Rc} (k : Tile H W (A ++ r :: Z)) (hp : B.Perm (a :: b :: (A ++ Z))) (ha : 1 ≤ a.h ∧ 1 ≤ a.w ∧ a.t + a.h ≤ H ∧ a.l + a.w ≤ W) (hb : 1 ≤ b.h ∧ 1 ≤ b.w ∧ b.t + b.h ≤ H ∧ b.l + b.w ≤ W)
    (hc : ∀ x y, (if inR x y a = true then 1 else 0) + (if inR x y b = true then 1 else 0) = if inR x y r = true then 1 else 0) : Tile H W B := by
  refine ⟨fun q hq => ?_, fun x y hx hy => ?_⟩
  · rcases List.mem_cons.mp (hp.mem_iff.mp hq) with rfl | hq
    · exact ha
    · rcases List.mem_cons.mp hq with rfl | hq
      · exact hb
      · rcases List.mem_append.mp hq with hq | hq
        · exact k.pos q (List.mem_append_left _ hq)
        · exact k.pos q (List.mem_append_right _ (List.mem_cons_of_mem _ hq))
  · have h1 := k.one x y hx hy
    rw [List.countP_append, List.countP_cons] at h1
    rw [hp.countP_eq, List.countP_cons, List.countP_cons, List.countP_append]
    have h2 := hc x y
    omega
theorem Tile.cutV {H W : Nat} {A Z B : List Rc} {r : Rc} {c : Nat} (k : Tile H W (A ++ r :: Z)) (c1 : 1 ≤ c) (c2 : c < r.h) (hp : B.Perm (⟨r.t, r.l, c, r.w⟩ :: ⟨r.t + c, r.l, r.h - c, r.w⟩ :: (A ++ Z))) : Tile H W B := by
  obtain ⟨p1, p2, p3, p4⟩ := k.pos r (List.mem_append_right _ List.mem_cons_self)
  refine k.cut hp ⟨c1, p2, by show r.t + c ≤ H; omega, p4⟩ ⟨by show 1 ≤ r.h - c; omega, p2, by show r.t + c + (r.h - c) ≤ H; omega, p4⟩ fun x y => ?_
  unfold inR
  simp only [decide_eq_true_eq]
  split <;> split <;> split <;> omega
theorem mod_nat {a b : Nat} (hb : 1 ≤ b) : gMod (.int (a : Int)) (.int (b : Int)) = some (.int ((a % b : Nat) : Int)) := by
  show (if decide (0 < (b : Int)) = true then some (D.int ((a : Int) % (b : Int))) else none) = _
  rw [if_pos (decide_eq_true (by omega))]
  rfl
abbrev gV : En → Option Out := (sSeq (sSet 13 (d2 gAdd (dC (.int 1)) (d2 gMod (d2 gIx (dVar 7) (dC (.int 2))) (d2 gSub (dVar 11) (dC (.int 1))))))
 (sSet 3 (dL (lCat (lCat (lCutL (dVar 3) oNo (oInt (dVar 8))) (lLst (aCons (dTup (aCons (dVar 9) (aCons (dVar 10) (aCons (dVar 13) (aCons (dVar 12) aNil))))) (aCons (dTup (aCons (d2 gAdd (dVar 9) (dVar 13)) (aCons (dVar 10) (aCons (d2 gSub (dVar 11) (dVar 13)) (aCons (dVar 12) aNil))))) aNil)))) (lCutL (dVar 3) (oInt (d2 gAdd (dVar 8) (dC (.int 1)))) oNo)))))
abbrev gH : En → Option Out := (sSeq (sSet 13 (d2 gAdd (dC (.int 1)) (d2 gMod (d2 gIx (dVar 7) (dC (.int 2))) (d2 gSub (dVar 12) (dC (.int 1))))))
 (sSet 3 (dL (lCat (lCat (lCat (lLst (aCons (dTup (aCons (dVar 9) (aCons (d2 gAdd (dVar 10) (dVar 13)) (aCons (dVar 11) (aCons (d2 gSub (dVar 12) (dVar 13)) aNil))))) aNil)) (lCutL (dVar 3) oNo (oInt (dVar 8)))) (lCutL (dVar 3) (oInt (d2 gAdd (dVar 8) (dC (.int 1)))) oNo)) (lLst (aCons (dTup (aCons (dVar 9) (aCons (dVar 10) (aCons (dVar 11) (aCons (dVar 13) aNil))))) aNil))))))
abbrev gTurn : En → Option Out := (sSeq (sSet 7 (dCutA (dVar 2) (oInt (d2 gAdd (dC (.int 3)) (d2 gMulI (dC (.int 3)) (dVar 4)))) (oInt (d2 gAdd (dC (.int 6)) (d2 gMulI (dC (.int 3)) (dVar 4))))))
 (sSeq (sSet 8 (d2 gMod (d2 gIx (dVar 7) (dC (.int 0))) (dCB gLen (aCons (dVar 3) aNil))))
 (sSeq (sAsgG (d2 gIx (dVar 3) (dVar 8)) (gTupD (gsCons (gSet 9) (gsCons (gSet 10) (gsCons (gSet 11) (gsCons (gSet 12) gsNil)))) 4))
 (sIf (tAnd2 (tBl (d2 gLt (d2 gIx (dVar 7) (dC (.int 1))) (dC (.int 3)))) (tBl (d2 gGt (dVar 11) (dC (.int 1))))) gV (sIf (tAnd2 (tBl (d2 gLt (d2 gIx (dVar 7) (dC (.int 1))) (dC (.int 5)))) (tBl (d2 gGt (dVar 12) (dC (.int 1))))) gH sNil)))))
theorem lCat_some {g g' : En → Option (List D)} {en : En} {xs ys : List D} (h : g en = some xs) (h' : g' en = some ys) (hl : xs.length + ys.length ≤ 1000) : lCat g g' en = some (xs ++ ys) := by
  unfold lCat
  rw [h]
  show ((g' en).bind _) = _
  rw [h']
  show (if xs.length + ys.length ≤ lim then _ else none) = _
  rw [if_pos (Nat.le_trans hl (by decide))]
end C

namespace DD
open PySem L2
section
variable {en en' : En} {i j : Nat} {d x y z : D} {ds ds' : List D} {f fa fb fc : En → Option D} {g g' : En → Option (List D)} {ft fu : En → Option Bool} {a b : Bool}
theorem lim_of {n : Nat} (h : n ≤ 1000) : n ≤ lim := Nat.le_trans h (by decide)
theorem set_of (h : f en = some d) : sSet i f en = some (.nx (en.set i (.dat d))) := by
  show (f en).map _ = _
  rw [h] <;> rfl
theorem ret_of (h : f en = some d) : sRet f en = some (.rt d) := by
  show (f en).map _ = _
  rw [h] <;> rfl
theorem app_of (h : f en = some d) (ho : en[i]? = some (.own ds)) (hl : ds.length ≤ 1000) : sApp i f en = some (.nx (en.set i (.own (ds ++ [d])))) := by
  show (f en).bind _ = _
  rw [h]
  show (match en[i]? with | some (.own ds) => _ | _ => none) = _
  rw [ho]
  exact if_pos (lim_of hl)
theorem asg_of {gd : D → En → Option En} (h : f en = some d) (h' : gd d en = some en') : sAsgG f gd en = some (.nx en') := by
  show (f en).bind _ = _
  rw [h]
  show (gd d en).map _ = _
  rw [h'] <;> rfl
theorem dL_of (h : g en = some ds) : dL g en = some (.lst ds) := by
  show (g en).map _ = _
  rw [h] <;> rfl
theorem a_cons (h : f en = some d) (h' : g en = some ds) : aCons f g en = some (d :: ds) := by
  show (f en).bind _ = _
  rw [h]
  show (g en).map _ = _
  rw [h'] <;> rfl
theorem a_nil : aNil en = some [] := rfl
theorem a_one (h : f en = some d) : aCons f aNil en = some [d] := a_cons h a_nil
theorem a_two (h : fa en = some x) (h' : fb en = some y) : aCons fa (aCons fb aNil) en = some [x, y] := a_cons h (a_one h')
theorem tup_of (h : g en = some ds) (hl : ds.length ≤ lim := by exact Nat.le_of_ble_eq_true rfl) : dTup g en = some (.tup ds) := by
  show (g en).bind _ = _
  rw [h]
  exact if_pos hl
theorem call_of {F : List D → Option D} (h : g en = some ds) (hF : F ds = some d) : dCall F g en = some d := by
  show (g en).bind _ = _
  rw [h]
  exact hF
theorem cb_of {F : List D → Option D} (h : g en = some ds) (hF : F ds = some d) : dCB F g en = some d := by
  show (g en).bind _ = _
  rw [h]
  exact hF
theorem d2_of {o : D → D → Option D} (h : fa en = some x) (h' : fb en = some y) (ho : o x y = some d) : d2 o fa fb en = some d := by
  show (fa en).bind _ = _
  rw [h]
  show (fb en).bind _ = _
  rw [h']
  exact ho
theorem bl_of (h : f en = some (.bl b)) : tBl f en = some b := by
  show (f en).bind _ = _
  rw [h] <;> rfl
theorem and_of (h : ft en = some a) (h' : fu en = some b) : tAnd2 ft fu en = some (a && b) := by
  show (ft en).bind _ = _
  rw [h]
  cases a
  · rfl
  · exact h'
theorem or_of (h : ft en = some a) (h' : fu en = some b) : tOr2 ft fu en = some (a || b) := by
  show (ft en).bind _ = _
  rw [h]
  cases a
  · exact h'
  · rfl
theorem any_lst (h : f en = some (.lst ds)) : iAny f en = some ds := by
  show (f en).bind _ = _
  rw [h] <;> rfl
end

section
variable {α : Type} {fi : En → Option (List D)} {gd : D → En → Option En} {ft : En → Option Bool} {fe : En → Option D} {vs : List Nat} {en : En}
theorem lcGo_of (e h : α → D) (p : α → Bool) : ∀ xs : List α, (∀ x ∈ xs, ∃ en1, gd (e x) en = some en1 ∧ ft en1 = some (p x) ∧ (p x = true → fe en1 = some (h x))) → lcGo gd ft fe en (xs.map e) = some ((xs.filter p).map h)
  | [], _ => rfl
  | x :: xs, H => by
    obtain ⟨en1, h1, h2, h3⟩ := H x List.mem_cons_self
    have ih := lcGo_of e h p xs fun y hy => H y (List.mem_cons_of_mem _ hy)
    show (gd (e x) en).bind _ = _
    rw [h1]
    show (ft en1).bind _ = _
    rw [h2, List.filter_cons]
    cases hp : p x with
    | true =>
      rw [if_pos rfl]
      show ((fe en1).bind fun y => (lcGo gd ft fe en (xs.map e)).map fun ys => y :: ys) = _
      rw [h3 hp]
      show (lcGo gd ft fe en (xs.map e)).map _ = _
      rw [ih] <;> rfl
    | false =>
      rw [if_neg Bool.false_ne_true]
      exact ih
theorem lc_of (xs : List α) (e h : α → D) (p : α → Bool) (hi : fi en = some (xs.map e)) (hl : xs.length ≤ 1000) (H : ∀ x ∈ xs, ∃ en1, gd (e x) (wipeE en vs) = some en1 ∧ ft en1 = some (p x) ∧ (p x = true → fe en1 = some (h x))) :
    lLc fi gd ft fe vs en = some ((xs.filter p).map h) := by
  show (fi en).bind _ = _
  rw [hi]
  show (if (xs.map e).length ≤ lim then _ else none) = _
  rw [if_pos (by rw [List.length_map]; exact lim_of hl)]
  exact lcGo_of e h p xs H
theorem lc_all (xs : List α) (e h : α → D) (hi : fi en = some (xs.map e)) (hl : xs.length ≤ 1000) (H : ∀ x ∈ xs, ∃ en1, gd (e x) (wipeE en vs) = some en1 ∧ fe en1 = some (h x)) : lLc fi gd fYes fe vs en = some (xs.map h) := by
  have q := lc_of (ft := fYes) xs e h (fun _ => true) hi hl fun x hx => by
    obtain ⟨en1, h1, h2⟩ := H x hx
    exact ⟨en1, h1, rfl, fun _ => h2⟩
  rw [List.filter_eq_self.mpr (fun _ _ => rfl)] at q
  exact q
end

section
variable {α : Type} {fi : En → Option (List D)} {gd : D → En → Option En} {g : En → Option Out} {en : En}
theorem for_of (xs : List α) (e : α → D) (hi : fi en = some (xs.map e)) (I : Nat → En → Prop) (h0 : I 0 en)
    (h : ∀ (i : Nat) (x : α) (en : En), xs[i]? = some x → I i en → ∃ en1 en2, gd (e x) en = some en1 ∧ (g en1 = some (.nx en2) ∨ g en1 = some (.ct en2)) ∧ I (i + 1) en2) : ∃ en', sFor fi gd g en = some (.nx en') ∧ I xs.length en' := by
  obtain ⟨en', h1, h2⟩ := sfor (g := g) (gd := gd) (xs.map e) hi I h0 fun i d en1 hd hI => by
    rw [List.getElem?_map] at hd
    obtain ⟨x, hx, rfl⟩ := omap hd
    exact h i x en1 hx hI
  rw [List.length_map] at h2
  exact ⟨en', h1, h2⟩
theorem forGo_ret (e : α → D) (I : En → Prop) (q : α → Bool) (v : D) : ∀ (xs : List α) (en : En), I en → (∀ x ∈ xs, ∀ en, I en → ∃ en1, gd (e x) en = some en1 ∧ if q x = true then g en1 = some (.rt v) else ∃ en2, (g en1 = some (.nx en2) ∨ g en1 = some (.ct en2)) ∧ I en2) →
    if xs.any q = true then forGo gd g (xs.map e) en = some (.rt v) else ∃ en', forGo gd g (xs.map e) en = some (.nx en') ∧ I en'
  | [], en, h0, _ => by
    rw [List.any_nil, if_neg Bool.false_ne_true]
    exact ⟨en, rfl, h0⟩
  | x :: xs, en, h0, h => by
    obtain ⟨en1, h1, h2⟩ := h x List.mem_cons_self en h0
    rw [List.any_cons]
    have e0 : forGo gd g ((x :: xs).map e) en = (g en1).bind fun
        | .nx en2 => forGo gd g (xs.map e) en2
        | .ct en2 => forGo gd g (xs.map e) en2
        | .bk en2 => some (.nx en2)
        | .rt v => some (.rt v)
        | .rm t en2 => some (.rm t en2) := by
      show (gd (e x) en).bind _ = _
      rw [h1] <;> rfl
    rw [e0]
    cases hq : q x with
    | true =>
      rw [hq, if_pos rfl] at h2
      rw [h2, Bool.true_or, if_pos rfl] <;> rfl
    | false =>
      rw [hq, if_neg Bool.false_ne_true] at h2
      obtain ⟨en2, h2, h3⟩ := h2
      have ih := forGo_ret e I q v xs en2 h3 fun y hy => h y (List.mem_cons_of_mem _ hy)
      rw [Bool.false_or]
      rcases h2 with h2 | h2
      · rw [h2]
        exact ih
      · rw [h2]
        exact ih
theorem for_ret (xs : List α) (e : α → D) (I : En → Prop) (q : α → Bool) (v : D) (hi : fi en = some (xs.map e)) (h0 : I en) (h : ∀ x ∈ xs, ∀ en, I en → ∃ en1, gd (e x) en = some en1 ∧ if q x = true then g en1 = some (.rt v) else ∃ en2, (g en1 = some (.nx en2) ∨ g en1 = some (.ct en2)) ∧ I en2) :
    if xs.any q = true then sFor fi gd g en = some (.rt v) else ∃ en', sFor fi gd g en = some (.nx en') ∧ I en' := by
  have q := forGo_ret (gd := gd) (g := g) e I q v xs en h0 h
  show if _ then (fi en).bind _ = _ else ∃ en', (fi en).bind _ = _ ∧ _
  rw [hi]
  exact q
end
theorem ints_map {α : Type} (h : α → Int) : ∀ xs : List α, intsOf (xs.map fun x => D.int (h x)) = some (xs.map h)
  | [] => rfl
  | x :: xs => by
    show (intsOf (xs.map fun x => D.int (h x))).map _ = _
    rw [ints_map h xs] <;> rfl
theorem bools_map {α : Type} (h : α → Bool) : ∀ xs : List α, boolsOf (xs.map fun x => D.bl (h x)) = some (xs.map h)
  | [] => rfl
  | x :: xs => by
    show (boolsOf (xs.map fun x => D.bl (h x))).map _ = _
    rw [bools_map h xs] <;> rfl
theorem any_map {α : Type} (h : α → Bool) (xs : List α) : gAny [.lst (xs.map fun x => D.bl (h x))] = some (.bl (xs.any h)) := by
  show (boolsOf _).map _ = _
  rw [bools_map h xs]
  show some (D.bl ((xs.map h).any id)) = _
  rw [List.any_map] <;> rfl
theorem eq_ints (x y : Int) : gEq (.int x) (.int y) = some (.bl (decide (x = y))) := by
  unfold gEq
  rw [if_pos ⟨deep_int, deep_int⟩]
  simp only [py, PyData.eqv]
  congr 2
theorem mem_at {α : Type} {xs : List α} {i : Nat} {x : α} (h : xs[i]? = some x) : x ∈ xs := List.mem_of_getElem? h
end DD

namespace C
open DD
structure TileR (R : Rc) (ps : List Rc) : Prop where
  ins : ∀ r ∈ ps, 1 ≤ r.h ∧ 1 ≤ r.w ∧ R.t ≤ r.t ∧ r.t + r.h ≤ R.t + R.h ∧ R.l ≤ r.l ∧ r.l + r.w ≤ R.l + R.w
  one : ∀ x y, inR x y R = true → ps.countP (inR x y) = 1
def st (v : Bool) (r : Rc) : Nat := if v = true then r.l else r.t
def ed (v : Bool) (r : Rc) : Nat := if v = true then r.l + r.w else r.t + r.h
def fs (v : Bool) (p : Nat) (ps : List Rc) : List Rc := ps.filter fun r => decide (st v r < p)
def sn (v : Bool) (p : Nat) (ps : List Rc) : List Rc := ps.filter fun r => decide (p ≤ st v r)
def unc (v : Bool) (p : Nat) (ps : List Rc) : Bool := ps.all fun r => decide (ed v r ≤ p ∨ p ≤ st v r)
def cutA (v : Bool) (p : Nat) (R : Rc) : Rc := if v = true then ⟨R.t, R.l, R.h, p - R.l⟩ else ⟨R.t, R.l, p - R.t, R.w⟩
def cutB (v : Bool) (p : Nat) (R : Rc) : Rc := if v = true then ⟨R.t, p, R.h, R.l + R.w - p⟩ else ⟨p, R.l, R.t + R.h - p, R.w⟩
structure Seam (v : Bool) (p : Nat) (R : Rc) (ps : List Rc) : Prop where
  lo : st v R < p
  hi : p < ed v R
  un : ∀ r ∈ ps, ed v r ≤ p ∨ p ≤ st v r
theorem unc_iff {v : Bool} {p : Nat} {ps : List Rc} : unc v p ps = true ↔ ∀ r ∈ ps, ed v r ≤ p ∨ p ≤ st v r := by
  unfold unc
  rw [List.all_eq_true]
  exact ⟨fun h r hr => of_decide_eq_true (h r hr), fun h r hr => decide_eq_true (h r hr)⟩
theorem mem_fs {v : Bool} {p : Nat} {ps : List Rc} {r : Rc} : r ∈ fs v p ps ↔ r ∈ ps ∧ st v r < p := by
  unfold fs
  rw [List.mem_filter, decide_eq_true_eq]
theorem mem_sn {v : Bool} {p : Nat} {ps : List Rc} {r : Rc} : r ∈ sn v p ps ↔ r ∈ ps ∧ p ≤ st v r := by
  unfold sn
  rw [List.mem_filter, decide_eq_true_eq]
section
variable {R : Rc} {ps : List Rc} {v : Bool} {p : Nat}
theorem TileR.perm (k : TileR R ps) {qs : List Rc} (h : qs.Perm ps) : TileR R qs :=
  ⟨fun r hr => k.ins r (h.mem_iff.mp hr), fun x y hx => (h.countP_eq _).trans (k.one x y hx)⟩
theorem TileR.at (k : TileR R ps) {x y : Nat} (h : inR x y R = true) : ∃ r ∈ ps, inR x y r = true := by
  have := k.one x y h
  exact List.countP_pos_iff.mp (by omega)
theorem countP_two : ∀ {ps : List Rc} {P : Rc → Bool} {i j : Nat} {a b : Rc}, i < j → ps[i]? = some a → ps[j]? = some b → P a = true → P b = true → 2 ≤ ps.countP P
  | [], _, _, _, _, _, _, h, _, _, _ => by simp at h
  | r :: ps, P, 0, j + 1, a, b, _, h, h', ha, hb => by
    have h : r = a := by simpa using h
    subst h
    rw [List.countP_cons_of_pos ha]
    have : 0 < ps.countP P := List.countP_pos_iff.mpr ⟨b, List.mem_of_getElem? (by simpa using h'), hb⟩
    omega
  | r :: ps, P, i + 1, j + 1, a, b, hij, h, h', ha, hb => by
    have ih := countP_two (ps := ps) (P := P) (i := i) (j := j) (by omega) (by simpa using h) (by simpa using h') ha hb
    rw [List.countP_cons]
    omega
theorem TileR.apart (k : TileR R ps) {i j : Nat} {a b : Rc} {x y : Nat} (hi : ps[i]? = some a) (hj : ps[j]? = some b) (ha : inR x y a = true) (hb : inR x y b = true) : i = j := by
  have am := k.ins a (List.mem_of_getElem? hi)
  have hR : inR x y R = true := by
    unfold inR at ha ⊢
    rw [decide_eq_true_eq] at ha ⊢
    omega
  have h1 := k.one x y hR
  rcases Nat.lt_trichotomy i j with h | h | h
  · have := countP_two h hi hj ha hb
    omega
  · exact h
  · have := countP_two h hj hi hb ha
    omega
theorem TileR.whole (h1 : 1 ≤ R.h) (w1 : 1 ≤ R.w) : TileR R [R] :=
  ⟨fun r hr => by rw [List.mem_singleton.mp hr]; omega, fun x y h => by rw [countP_one, if_pos h]⟩
theorem TileR.ne (k : TileR R ps) (h1 : 1 ≤ R.h) (w1 : 1 ≤ R.w) : 1 ≤ ps.length := by
  obtain ⟨r, hr, _⟩ := k.at (x := R.t) (y := R.l) (by unfold inR; rw [decide_eq_true_eq]; omega)
  cases ps with
  | nil => cases hr
  | cons a ps => rw [List.length_cons]; omega
theorem TileR.st_ed (k : TileR R ps) {r : Rc} (hr : r ∈ ps) : st v R ≤ st v r ∧ st v r < ed v r ∧ ed v r ≤ ed v R := by
  obtain ⟨h1, h2, h3, h4, h5, h6⟩ := k.ins r hr
  cases v
  · show R.t ≤ r.t ∧ r.t < r.t + r.h ∧ r.t + r.h ≤ R.t + R.h
    omega
  · show R.l ≤ r.l ∧ r.l < r.l + r.w ∧ r.l + r.w ≤ R.l + R.w
    omega
theorem TileR.on (k : TileR R ps) (h1 : 1 ≤ R.h) (w1 : 1 ≤ R.w) {q : Nat} (lo : st v R ≤ q) (hi : q < ed v R) : ∃ r ∈ ps, st v r ≤ q ∧ q < ed v r := by
  cases v
  · have lo : R.t ≤ q := lo
    have hi : q < R.t + R.h := hi
    obtain ⟨r, hr, hc⟩ := k.at (x := q) (y := R.l) (by unfold inR; rw [decide_eq_true_eq]; omega)
    unfold inR at hc
    rw [decide_eq_true_eq] at hc
    exact ⟨r, hr, hc.1, hc.2.1⟩
  · have lo : R.l ≤ q := lo
    have hi : q < R.l + R.w := hi
    obtain ⟨r, hr, hc⟩ := k.at (x := R.t) (y := q) (by unfold inR; rw [decide_eq_true_eq]; omega)
    unfold inR at hc
    rw [decide_eq_true_eq] at hc
    exact ⟨r, hr, hc.2.2.1, hc.2.2.2⟩
theorem Seam.start (s : Seam v p R ps) (k : TileR R ps) (h1 : 1 ≤ R.h) (w1 : 1 ≤ R.w) : ∃ r ∈ ps, st v r = p := by
  obtain ⟨r, hr, a, b⟩ := k.on h1 w1 (Nat.le_of_lt s.lo) s.hi
  rcases s.un r hr with h | h
  · omega
  · exact ⟨r, hr, by omega⟩
theorem cutA_pos (h1 : 1 ≤ R.h) (w1 : 1 ≤ R.w) (lo : st v R < p) (hi : p < ed v R) : 1 ≤ (cutA v p R).h ∧ 1 ≤ (cutA v p R).w := by
  cases v
  · have lo : R.t < p := lo
    exact ⟨by show 1 ≤ p - R.t; omega, w1⟩
  · have lo : R.l < p := lo
    exact ⟨h1, by show 1 ≤ p - R.l; omega⟩
theorem cutB_pos (h1 : 1 ≤ R.h) (w1 : 1 ≤ R.w) (lo : st v R < p) (hi : p < ed v R) : 1 ≤ (cutB v p R).h ∧ 1 ≤ (cutB v p R).w := by
  cases v
  · have hi : p < R.t + R.h := hi
    exact ⟨by show 1 ≤ R.t + R.h - p; omega, w1⟩
  · have hi : p < R.l + R.w := hi
    exact ⟨h1, by show 1 ≤ R.l + R.w - p; omega⟩
theorem Seam.tileA (s : Seam v p R ps) (k : TileR R ps) : TileR (cutA v p R) (fs v p ps) := by
  refine ⟨fun r hr => ?_, fun x y hx => ?_⟩
  · obtain ⟨hr, hp⟩ := mem_fs.mp hr
    obtain ⟨h1, h2, h3, h4, h5, h6⟩ := k.ins r hr
    have lo := s.lo
    rcases s.un r hr with h | h
    · cases v
      · have h : r.t + r.h ≤ p := h
        have lo : R.t < p := lo
        refine ⟨h1, h2, h3, ?_, h5, h6⟩
        show r.t + r.h ≤ R.t + (p - R.t)
        omega
      · have h : r.l + r.w ≤ p := h
        have lo : R.l < p := lo
        refine ⟨h1, h2, h3, h4, h5, ?_⟩
        show r.l + r.w ≤ R.l + (p - R.l)
        omega
    · omega
  · have hi := s.hi
    have hR : inR x y R = true ∧ ∀ r : Rc, inR x y r = true → st v r < p := by
      cases v
      · have hi : p < R.t + R.h := hi
        have hx : inR x y ⟨R.t, R.l, p - R.t, R.w⟩ = true := hx
        unfold inR at hx ⊢
        simp only [decide_eq_true_eq] at hx ⊢
        exact ⟨by omega, fun r hr => by show r.t < p; omega⟩
      · have hi : p < R.l + R.w := hi
        have hx : inR x y ⟨R.t, R.l, R.h, p - R.l⟩ = true := hx
        unfold inR at hx ⊢
        simp only [decide_eq_true_eq] at hx ⊢
        exact ⟨by omega, fun r hr => by show r.l < p; omega⟩
    rw [← k.one x y hR.1]
    unfold fs
    rw [List.countP_filter]
    refine List.countP_congr fun r hr => ?_
    rw [Bool.and_eq_true, decide_eq_true_eq]
    exact ⟨fun h => h.1, fun h => ⟨h, hR.2 r h⟩⟩
theorem Seam.tileB (s : Seam v p R ps) (k : TileR R ps) : TileR (cutB v p R) (sn v p ps) := by
  refine ⟨fun r hr => ?_, fun x y hx => ?_⟩
  · obtain ⟨hr, hp⟩ := mem_sn.mp hr
    obtain ⟨h1, h2, h3, h4, h5, h6⟩ := k.ins r hr
    have hi := s.hi
    cases v
    · have hp : p ≤ r.t := hp
      have hi : p < R.t + R.h := hi
      refine ⟨h1, h2, hp, ?_, h5, h6⟩
      show r.t + r.h ≤ p + (R.t + R.h - p)
      omega
    · have hp : p ≤ r.l := hp
      have hi : p < R.l + R.w := hi
      refine ⟨h1, h2, h3, h4, hp, ?_⟩
      show r.l + r.w ≤ p + (R.l + R.w - p)
      omega
  · have lo := s.lo
    have hR : inR x y R = true ∧ ∀ r ∈ ps, inR x y r = true → p ≤ st v r := by
      cases v
      · have lo : R.t < p := lo
        have hx : inR x y ⟨p, R.l, R.t + R.h - p, R.w⟩ = true := hx
        unfold inR at hx ⊢
        simp only [decide_eq_true_eq] at hx ⊢
        refine ⟨by omega, fun r hr h => ?_⟩
        have q : r.t + r.h ≤ p ∨ p ≤ r.t := s.un r hr
        show p ≤ r.t
        omega
      · have lo : R.l < p := lo
        have hx : inR x y ⟨R.t, p, R.h, R.l + R.w - p⟩ = true := hx
        unfold inR at hx ⊢
        simp only [decide_eq_true_eq] at hx ⊢
        refine ⟨by omega, fun r hr h => ?_⟩
        have q : r.l + r.w ≤ p ∨ p ≤ r.l := s.un r hr
        show p ≤ r.l
        omega
    rw [← k.one x y hR.1]
    unfold sn
    rw [List.countP_filter]
    refine List.countP_congr fun r hr => ?_
    rw [Bool.and_eq_true, decide_eq_true_eq]
    exact ⟨fun h => h.1, fun h => ⟨h, hR.2 r hr h⟩⟩
theorem parts_len : (fs v p ps).length + (sn v p ps).length = ps.length := by
  unfold fs sn
  induction ps with
  | nil => rfl
  | cons r ps ih =>
    rw [List.filter_cons, List.filter_cons, List.length_cons]
    by_cases h : st v r < p
    · rw [if_pos (decide_eq_true h), if_neg (by rw [decide_eq_true_eq]; omega), List.length_cons]
      omega
    · rw [if_neg (by rw [decide_eq_true_eq]; exact h), if_pos (decide_eq_true (by omega)), List.length_cons]
      omega
theorem Seam.two (s : Seam v p R ps) (k : TileR R ps) (h1 : 1 ≤ R.h) (w1 : 1 ≤ R.w) : 1 ≤ (fs v p ps).length ∧ 1 ≤ (sn v p ps).length := by
  have a := cutA_pos h1 w1 s.lo s.hi
  have b := cutB_pos h1 w1 s.lo s.hi
  exact ⟨(s.tileA k).ne a.1 a.2, (s.tileB k).ne b.1 b.2⟩

def posN (v : Bool) (R : Rc) (ps : List Rc) : List Nat := ((List.range (ed v R - (st v R + 1))).map fun i => st v R + 1 + i).filter fun p => unc v p ps
def seams (R : Rc) (ps : List Rc) : List (Bool × Nat) := (posN true R ps).map (fun p => (true, p)) ++ (posN false R ps).map (fun p => (false, p))
theorem mem_pos : p ∈ posN v R ps ↔ Seam v p R ps := by
  unfold posN
  rw [List.mem_filter, List.mem_map, unc_iff]
  refine ⟨fun ⟨⟨i, hi, e⟩, h⟩ => ?_, fun s => ⟨⟨p - (st v R + 1), List.mem_range.mpr ?_, ?_⟩, s.un⟩⟩
  · rw [List.mem_range] at hi
    subst e
    exact ⟨by omega, by omega, h⟩
  · have := s.lo
    have := s.hi
    omega
  · have := s.lo
    omega
theorem mem_seams {z : Bool × Nat} : z ∈ seams R ps ↔ Seam z.1 z.2 R ps := by
  unfold seams
  rw [List.mem_append, List.mem_map, List.mem_map]
  obtain ⟨v, p⟩ := z
  refine ⟨fun h => ?_, fun h => ?_⟩
  · rcases h with ⟨q, h, e⟩ | ⟨q, h, e⟩ <;> cases e <;> exact mem_pos.mp h
  · cases v
    · exact .inr ⟨p, mem_pos.mpr h, rfl⟩
    · exact .inl ⟨p, mem_pos.mpr h, rfl⟩
inductive Sew : Rc → List Rc → Prop
  | one {R : Rc} {ps : List Rc} : ps.length = 1 → Sew R ps
  | cut {R : Rc} {ps : List Rc} {v : Bool} {p : Nat} : Seam v p R ps → Sew (cutA v p R) (fs v p ps) → Sew (cutB v p R) (sn v p ps) → Sew R ps
theorem Rc.ext {a b : Rc} (h1 : a.t = b.t) (h2 : a.l = b.l) (h3 : a.h = b.h) (h4 : a.w = b.w) : a = b := by
  cases a; cases b
  cases h1; cases h2; cases h3; cases h4
  rfl
theorem Seam.sub (s : Seam v p R ps) {qs : List Rc} {S : Rc} (hq : ∀ r ∈ qs, r ∈ ps) (lo : st v S < p) (hi : p < ed v S) : Seam v p S qs := ⟨lo, hi, fun r hr => s.un r (hq r hr)⟩
theorem cutA_st : st v (cutA v p R) = st v R := by cases v <;> rfl
theorem cutB_st : st v (cutB v p R) = p := by cases v <;> rfl
theorem cutA_ed (h : st v R ≤ p) : ed v (cutA v p R) = p := by
  cases v
  · have h : R.t ≤ p := h
    show R.t + (p - R.t) = p
    omega
  · have h : R.l ≤ p := h
    show R.l + (p - R.l) = p
    omega
theorem cutB_ed (h : p ≤ ed v R) : ed v (cutB v p R) = ed v R := by
  cases v
  · have h : p ≤ R.t + R.h := h
    show p + (R.t + R.h - p) = R.t + R.h
    omega
  · have h : p ≤ R.l + R.w := h
    show p + (R.l + R.w - p) = R.l + R.w
    omega
theorem cut_other {u : Bool} (h : u ≠ v) : st u (cutA v p R) = st u R ∧ ed u (cutA v p R) = ed u R ∧ st u (cutB v p R) = st u R ∧ ed u (cutB v p R) = ed u R := by
  cases u <;> cases v <;> first | exact absurd rfl h | exact ⟨rfl, rfl, rfl, rfl⟩
end
end C

namespace C
open PySem DD L2
def natD (p : Nat) : D := .int (p : Int)
def whereP {α : Type} (P : α → Bool) (xs : List α) : List Nat := (xs.zipIdx.filter fun q => P q.1).map (·.2)
def rc0 : Rc := ⟨0, 0, 0, 0⟩
theorem at_nat {α : Type} (f : α → D) (xs : List α) (z : α) {i : Nat} (h : i < xs.length) : gIx (.tup (xs.map f)) (natD i) = some (f (xs.getD i z)) := by
  show atI (xs.map f) (i : Int) = _
  rw [atI_map, List.getElem?_eq_getElem h, List.getD_eq_getElem?_getD, List.getElem?_eq_getElem h] <;> rfl
end C

namespace C
open PySem DD L2
theorem lt_nat (a b : Nat) : gLt (natD a) (natD b) = some (.bl (decide (a < b))) := by
  show some (D.bl (decide ((a : Int) < (b : Int)))) = _
  congr 2
  exact decide_eq_decide.mpr Int.ofNat_lt
theorem range_nat {lo hi : Nat} {fr : En → Option (List D)} {en : En} (h : fr en = some [natD lo, natD hi]) (h1 : lo ≤ 1000) (h2 : hi ≤ 1000) : iR2 fr en = some (((List.range (hi - lo)).map fun i => lo + i).map natD) := by
  show (fr en).bind _ = _
  rw [h]
  show (if (lo : Int).natAbs ≤ 100000 ∧ (hi : Int).natAbs ≤ 100000 then some (rngD (lo : Int) 1 ((hi : Int) - (lo : Int)).toNat) else none) = _
  rw [if_pos ⟨by omega, by omega⟩]
  unfold rngD
  rw [show ((hi : Int) - (lo : Int)).toNat = hi - lo by omega, List.map_map]
  congr 1
  refine List.map_congr_left fun i _ => ?_
  show D.int ((lo : Int) + (i : Int) * 1) = D.int ((lo + i : Nat) : Int)
  congr 1
  omega
theorem range0_nat {hi : Nat} {fr : En → Option (List D)} {en : En} (h : fr en = some [natD hi]) (h2 : hi ≤ 1000) : iR1 fr en = some ((List.range hi).map natD) := by
  show (fr en).bind _ = _
  rw [h]
  show (if (hi : Int).natAbs ≤ 100000 then some (rngD 0 1 (hi : Int).toNat) else none) = _
  rw [if_pos (by omega)]
  unfold rngD
  rw [show (hi : Int).toNat = hi by omega]
  congr 1
  refine List.map_congr_left fun i _ => ?_
  show D.int (0 + (i : Int) * 1) = D.int (i : Int)
  congr 1
  omega
theorem take_snoc {α : Type} {xs : List α} {i : Nat} {x : α} (h : xs[i]? = some x) : xs.take (i + 1) = xs.take i ++ [x] := by
  rw [List.take_add_one, h] <;> rfl
end C

namespace C
open DD
theorem Rc.ext2 {a b : Rc} (h : ∀ v, st v a = st v b ∧ ed v a = ed v b) : a = b := by
  have h1 : a.l = b.l ∧ a.l + a.w = b.l + b.w := h true
  have h2 : a.t = b.t ∧ a.t + a.h = b.t + b.h := h false
  exact Rc.ext h2.1 h1.1 (by omega) (by omega)
def In (R r : Rc) : Prop := ∀ v, st v R ≤ st v r ∧ st v r < ed v r ∧ ed v r ≤ ed v R
theorem in_self {R : Rc} (h1 : 1 ≤ R.h) (w1 : 1 ≤ R.w) : In R R := fun v => by
  cases v
  · show R.t ≤ R.t ∧ R.t < R.t + R.h ∧ R.t + R.h ≤ R.t + R.h
    omega
  · show R.l ≤ R.l ∧ R.l < R.l + R.w ∧ R.l + R.w ≤ R.l + R.w
    omega
structure Mv (R0 : Rc) (φ : Rc → Rc) (π ρ : Bool → Bool) (f : Bool → Nat → Nat) : Prop where
  pi : ∀ v, π (!v) = !(π v)
  inc : ∀ v, ρ v = false → ∀ a b, st v R0 ≤ a → a < b → b ≤ ed v R0 → f v a < f v b
  dec : ∀ v, ρ v = true → ∀ a b, st v R0 ≤ a → a < b → b ≤ ed v R0 → f v b < f v a
  fwd : ∀ v, ρ v = false → ∀ r, In R0 r → st (π v) (φ r) = f v (st v r) ∧ ed (π v) (φ r) = f v (ed v r)
  bwd : ∀ v, ρ v = true → ∀ r, In R0 r → st (π v) (φ r) = f v (ed v r) ∧ ed (π v) (φ r) = f v (st v r)
section
variable {R0 R : Rc} {φ : Rc → Rc} {π ρ : Bool → Bool} {f : Bool → Nat → Nat} {ps : List Rc} {v : Bool} {p : Nat}
theorem Mv.pi_ne (m : Mv R0 φ π ρ f) {u : Bool} (h : u ≠ π v) : u = π (!v) := by
  rw [m.pi]
  cases u <;> cases e : π v <;> first | rfl | (rw [e] at h; exact absurd rfl h)
theorem in_cutA (h : In R0 R) (lo : st v R < p) (hi : p < ed v R) : In R0 (cutA v p R) := fun u => by
  have q := h u
  by_cases e : u = v
  · subst e
    rw [cutA_st, cutA_ed (Nat.le_of_lt lo)]
    omega
  · have o := cut_other (R := R) (p := p) e
    rw [o.1, o.2.1]
    exact q
theorem in_cutB (h : In R0 R) (lo : st v R < p) (hi : p < ed v R) : In R0 (cutB v p R) := fun u => by
  have q := h u
  by_cases e : u = v
  · subst e
    rw [cutB_st, cutB_ed (Nat.le_of_lt hi)]
    omega
  · have o := cut_other (R := R) (p := p) e
    rw [o.2.2.1, o.2.2.2]
    exact q
theorem Mv.other (m : Mv R0 φ π ρ f) {a b : Rc} (ha : In R0 a) (hb : In R0 b) (h : st v a = st v b ∧ ed v a = ed v b) : st (π v) (φ a) = st (π v) (φ b) ∧ ed (π v) (φ a) = ed (π v) (φ b) := by
  cases e : ρ v with
  | false =>
    obtain ⟨a1, a2⟩ := m.fwd v e a ha
    obtain ⟨b1, b2⟩ := m.fwd v e b hb
    rw [a1, a2, b1, b2, h.1, h.2]
    exact ⟨rfl, rfl⟩
  | true =>
    obtain ⟨a1, a2⟩ := m.bwd v e a ha
    obtain ⟨b1, b2⟩ := m.bwd v e b hb
    rw [a1, a2, b1, b2, h.1, h.2]
    exact ⟨rfl, rfl⟩
theorem fs_map (q : Nat) (u : Bool) (h : ∀ r ∈ ps, (st u (φ r) < q ↔ st v r < p)) : fs u q (ps.map φ) = (fs v p ps).map φ := by
  unfold fs
  rw [List.filter_map]
  congr 1
  refine List.filter_congr fun r hr => ?_
  exact decide_eq_decide.mpr (h r hr)
theorem sn_map (q : Nat) (u : Bool) (h : ∀ r ∈ ps, (q ≤ st u (φ r) ↔ p ≤ st v r)) : sn u q (ps.map φ) = (sn v p ps).map φ := by
  unfold sn
  rw [List.filter_map]
  congr 1
  refine List.filter_congr fun r hr => ?_
  exact decide_eq_decide.mpr (h r hr)
theorem fs_map' (q : Nat) (u : Bool) (h : ∀ r ∈ ps, (st u (φ r) < q ↔ p ≤ st v r)) : fs u q (ps.map φ) = (sn v p ps).map φ := by
  unfold fs sn
  rw [List.filter_map]
  congr 1
  refine List.filter_congr fun r hr => ?_
  exact decide_eq_decide.mpr (h r hr)
theorem sn_map' (q : Nat) (u : Bool) (h : ∀ r ∈ ps, (q ≤ st u (φ r) ↔ st v r < p)) : sn u q (ps.map φ) = (fs v p ps).map φ := by
  unfold fs sn
  rw [List.filter_map]
  congr 1
  refine List.filter_congr fun r hr => ?_
  exact decide_eq_decide.mpr (h r hr)
theorem Mv.seam (m : Mv R0 φ π ρ f) (hR : In R0 R) (hp : ∀ r ∈ ps, In R0 r) (s : Seam v p R ps) : Seam (π v) (f v p) (φ R) (ps.map φ) ∧
    (ρ v = false → fs (π v) (f v p) (ps.map φ) = (fs v p ps).map φ ∧ sn (π v) (f v p) (ps.map φ) = (sn v p ps).map φ ∧ cutA (π v) (f v p) (φ R) = φ (cutA v p R) ∧ cutB (π v) (f v p) (φ R) = φ (cutB v p R)) ∧
    (ρ v = true → fs (π v) (f v p) (ps.map φ) = (sn v p ps).map φ ∧ sn (π v) (f v p) (ps.map φ) = (fs v p ps).map φ ∧ cutA (π v) (f v p) (φ R) = φ (cutB v p R) ∧ cutB (π v) (f v p) (φ R) = φ (cutA v p R)) := by
  have lo := s.lo
  have hi := s.hi
  have qR := hR v
  have iA := in_cutA hR lo hi
  have iB := in_cutB hR lo hi
  have oA : st (!v) (cutA v p R) = st (!v) R ∧ ed (!v) (cutA v p R) = ed (!v) R ∧ st (!v) (cutB v p R) = st (!v) R ∧ ed (!v) (cutB v p R) = ed (!v) R := cut_other (by cases v <;> exact Bool.noConfusion)
  have ne : (π (!v)) ≠ π v := by rw [m.pi]; cases π v <;> exact Bool.noConfusion
  have other : ∀ {x : Rc}, In R0 x → st (!v) x = st (!v) R ∧ ed (!v) x = ed (!v) R → ∀ u, u ≠ π v → st u (φ x) = st u (φ R) ∧ ed u (φ x) = ed u (φ R) := fun hx h u hu => by
    rw [m.pi_ne hu]
    exact m.other hx hR h
  cases e : ρ v with
  | false =>
    obtain ⟨r1, r2⟩ := m.fwd v e R hR
    have inc := m.inc v e
    have l1 := inc _ _ qR.1 lo (by omega)
    have l2 := inc p _ (by omega) hi qR.2.2
    have iff : ∀ r ∈ ps, (st (π v) (φ r) < f v p ↔ st v r < p) := fun r hr => by
      have q := hp r hr v
      rw [(m.fwd v e r (hp r hr)).1]
      constructor
      · intro h
        rcases Nat.lt_trichotomy (st v r) p with z | z | z
        · exact z
        · rw [z] at h; omega
        · have := inc p (st v r) (by omega) z (by omega)
          omega
      · intro h
        exact inc _ _ q.1 h (by omega)
    refine ⟨⟨by rw [r1]; exact l1, by rw [r2]; exact l2, fun x hx => ?_⟩, fun _ => ⟨fs_map _ _ iff, sn_map _ _ fun r hr => ?_, ?_, ?_⟩, fun z => nomatch z⟩
    · obtain ⟨r, hr, rfl⟩ := List.mem_map.mp hx
      have q := hp r hr v
      obtain ⟨x1, x2⟩ := m.fwd v e r (hp r hr)
      rw [x1, x2]
      rcases s.un r hr with h | h
      · rcases Nat.lt_or_eq_of_le h with z | z
        · exact .inl (Nat.le_of_lt (inc _ _ (by omega) z (by omega)))
        · rw [z]; exact .inl (Nat.le_refl _)
      · rcases Nat.lt_or_eq_of_le h with z | z
        · exact .inr (Nat.le_of_lt (inc _ _ (by omega) z (by omega)))
        · rw [← z]; exact .inr (Nat.le_refl _)
    · have := iff r hr
      omega
    · refine Rc.ext2 fun u => ?_
      by_cases hu : u = π v
      · subst hu
        obtain ⟨a1, a2⟩ := m.fwd v e _ iA
        rw [cutA_st, cutA_ed (by rw [r1]; omega), a1, a2, r1, cutA_st, cutA_ed (Nat.le_of_lt lo)]
        exact ⟨rfl, rfl⟩
      · have o := other iA ⟨oA.1, oA.2.1⟩ u hu
        have c := cut_other (R := φ R) (p := f v p) hu
        rw [c.1, c.2.1, o.1, o.2]
        exact ⟨rfl, rfl⟩
    · refine Rc.ext2 fun u => ?_
      by_cases hu : u = π v
      · subst hu
        obtain ⟨a1, a2⟩ := m.fwd v e _ iB
        rw [cutB_st, cutB_ed (by rw [r2]; omega), a1, a2, r2, cutB_st, cutB_ed (Nat.le_of_lt hi)]
        exact ⟨rfl, rfl⟩
      · have o := other iB ⟨oA.2.2.1, oA.2.2.2⟩ u hu
        have c := cut_other (R := φ R) (p := f v p) hu
        rw [c.2.2.1, c.2.2.2, o.1, o.2]
        exact ⟨rfl, rfl⟩
  | true =>
    obtain ⟨r1, r2⟩ := m.bwd v e R hR
    have dec := m.dec v e
    have l1 := dec _ _ qR.1 lo (by omega)
    have l2 := dec p _ (by omega) hi qR.2.2
    have iff : ∀ r ∈ ps, (st (π v) (φ r) < f v p ↔ p ≤ st v r) := fun r hr => by
      have q := hp r hr v
      rw [(m.bwd v e r (hp r hr)).1]
      constructor
      · intro h
        rcases s.un r hr with z | z
        · rcases Nat.lt_or_eq_of_le z with y | y
          · have := dec _ _ (by omega) y (by omega)
            omega
          · rw [y] at h; omega
        · exact z
      · intro h
        exact dec _ _ (by omega) (by omega) q.2.2
    refine ⟨⟨by rw [r1]; exact l2, by rw [r2]; exact l1, fun x hx => ?_⟩, (fun z => absurd z (by decide)), fun _ => ⟨fs_map' _ _ iff, sn_map' _ _ fun r hr => ?_, ?_, ?_⟩⟩
    · obtain ⟨r, hr, rfl⟩ := List.mem_map.mp hx
      have q := hp r hr v
      obtain ⟨x1, x2⟩ := m.bwd v e r (hp r hr)
      rw [x1, x2]
      rcases s.un r hr with h | h
      · rcases Nat.lt_or_eq_of_le h with z | z
        · exact .inr (Nat.le_of_lt (dec _ _ (by omega) z (by omega)))
        · rw [z]; exact .inr (Nat.le_refl _)
      · rcases Nat.lt_or_eq_of_le h with z | z
        · exact .inl (Nat.le_of_lt (dec _ _ (by omega) z (by omega)))
        · rw [← z]; exact .inl (Nat.le_refl _)
    · have := iff r hr
      omega
    · refine Rc.ext2 fun u => ?_
      by_cases hu : u = π v
      · subst hu
        obtain ⟨a1, a2⟩ := m.bwd v e _ iB
        rw [cutA_st, cutA_ed (by rw [r1]; omega), a1, a2, r1, cutB_st, cutB_ed (Nat.le_of_lt hi)]
        exact ⟨rfl, rfl⟩
      · have o := other iB ⟨oA.2.2.1, oA.2.2.2⟩ u hu
        have c := cut_other (R := φ R) (p := f v p) hu
        rw [c.1, c.2.1, o.1, o.2]
        exact ⟨rfl, rfl⟩
    · refine Rc.ext2 fun u => ?_
      by_cases hu : u = π v
      · subst hu
        obtain ⟨a1, a2⟩ := m.bwd v e _ iA
        rw [cutB_st, cutB_ed (by rw [r2]; omega), a1, a2, r2, cutA_st, cutA_ed (Nat.le_of_lt lo)]
        exact ⟨rfl, rfl⟩
      · have o := other iA ⟨oA.1, oA.2.1⟩ u hu
        have c := cut_other (R := φ R) (p := f v p) hu
        rw [c.2.2.1, c.2.2.2, o.1, o.2]
        exact ⟨rfl, rfl⟩
theorem TileR.move {S : Rc} {c : Nat → Nat → Nat × Nat} (k : TileR R ps) (hb : ∀ r ∈ ps, 1 ≤ (φ r).h ∧ 1 ≤ (φ r).w ∧ S.t ≤ (φ r).t ∧ (φ r).t + (φ r).h ≤ S.t + S.h ∧ S.l ≤ (φ r).l ∧ (φ r).l + (φ r).w ≤ S.l + S.w)
    (hc : ∀ x y, inR x y S = true → inR (c x y).1 (c x y).2 R = true ∧ ∀ r ∈ ps, (inR x y (φ r) = true ↔ inR (c x y).1 (c x y).2 r = true)) : TileR S (ps.map φ) := by
  refine ⟨fun q hq => ?_, fun x y h => ?_⟩
  · obtain ⟨r, hr, rfl⟩ := List.mem_map.mp hq
    exact hb r hr
  · obtain ⟨h1, h2⟩ := hc x y h
    rw [List.countP_map, ← k.one _ _ h1]
    exact List.countP_congr fun r hr => h2 r hr
end
def shR (a b : Nat) (r : Rc) : Rc := ⟨r.t - a, r.l - b, r.h, r.w⟩
section
variable {H W a b : Nat} {R : Rc} {ps : List Rc}
theorem TileR.sh (k : TileR R ps) : TileR ⟨0, 0, R.h, R.w⟩ (ps.map (shR R.t R.l)) := by
  refine k.move (c := fun x y => (x + R.t, y + R.l)) (fun r hr => ?_) fun x y h => ?_
  · obtain ⟨h1, h2, h3, h4, h5, h6⟩ := k.ins r hr
    refine ⟨h1, h2, Nat.zero_le _, ?_, Nat.zero_le _, ?_⟩
    · show r.t - R.t + r.h ≤ 0 + R.h
      omega
    · show r.l - R.l + r.w ≤ 0 + R.w
      omega
  · unfold inR at h
    rw [decide_eq_true_eq] at h
    have h : 0 ≤ x ∧ x < 0 + R.h ∧ 0 ≤ y ∧ y < 0 + R.w := h
    refine ⟨?_, fun r hr => ?_⟩
    · unfold inR
      rw [decide_eq_true_eq]
      show R.t ≤ x + R.t ∧ x + R.t < R.t + R.h ∧ R.l ≤ y + R.l ∧ y + R.l < R.l + R.w
      omega
    · obtain ⟨h1, h2, h3, h4, h5, h6⟩ := k.ins r hr
      unfold inR
      rw [decide_eq_true_eq, decide_eq_true_eq]
      show (r.t - R.t ≤ x ∧ x < r.t - R.t + r.h ∧ r.l - R.l ≤ y ∧ y < r.l - R.l + r.w) ↔ (r.t ≤ x + R.t ∧ x + R.t < r.t + r.h ∧ r.l ≤ y + R.l ∧ y + R.l < r.l + r.w)
      omega
end
end C

namespace C
open PySem DD L2
theorem maxDef_of {α : Type} {xs : List α} {h : α → Int} {m : Int} {fa : En → Option D} {en : En} (hf : fa en = some (.lst (xs.map fun x => D.int (h x)))) (h1 : ∃ x ∈ xs, h x = m) (h2 : ∀ x ∈ xs, h x ≤ m) : dMaxDef 0 fa en = some (.int m) := by
  obtain ⟨x, hx, e⟩ := h1
  have hm : m ∈ xs.map h := List.mem_map.mpr ⟨x, hx, e⟩
  have hne : xs.map h ≠ [] := by
    intro z
    rw [z] at hm
    exact absurd hm List.not_mem_nil
  have q := maxD_one hne hm fun y hy => by
    obtain ⟨z, hz, rfl⟩ := List.mem_map.mp hy
    exact h2 z hz
  show (fa en).bind _ = _
  rw [hf]
  show (intsOf _).map _ = _
  rw [ints_map]
  show some (D.int (if xs.map h = [] then _ else _)) = _
  rw [if_neg hne, ← q]
theorem ed_max {R : Rc} {ps : List Rc} (k : TileR R ps) (h1 : 1 ≤ R.h) (w1 : 1 ≤ R.w) (v : Bool) : (∃ r ∈ ps, ed v r = ed v R) ∧ ∀ r ∈ ps, ed v r ≤ ed v R := by
  have hp : st v R < ed v R := (in_self h1 w1 v).2.1
  obtain ⟨r, hr, a, b⟩ := k.on (v := v) (q := ed v R - 1) h1 w1 (by omega) (by omega)
  have := k.st_ed (v := v) hr
  exact ⟨⟨r, hr, by omega⟩, fun q hq => (k.st_ed hq).2.2⟩
theorem st_min {R : Rc} {ps : List Rc} (k : TileR R ps) (h1 : 1 ≤ R.h) (w1 : 1 ≤ R.w) (v : Bool) : (∃ r ∈ ps, st v r = st v R) ∧ ∀ r ∈ ps, st v R ≤ st v r := by
  have hp : st v R < ed v R := (in_self h1 w1 v).2.1
  obtain ⟨r, hr, a, b⟩ := k.on (v := v) (q := st v R) h1 w1 (by omega) (by omega)
  have := k.st_ed (v := v) hr
  exact ⟨⟨r, hr, by omega⟩, fun q hq => (k.st_ed hq).1⟩
def scrD (ns : List Int) : D := .lst (ns.map D.int)
theorem lenS (ns : List Int) : gLen [scrD ns] = some (natD ns.length) := by
  show some (D.int ((ns.map D.int).length : Int)) = _
  rw [List.length_map] <;> rfl
theorem minN (c n : Nat) : gMin2 [natD c, natD n] = some (natD (min c n)) := by
  show some (D.int (if (n : Int) < (c : Int) then (n : Int) else (c : Int))) = some (D.int _)
  congr 2
  split <;> omega
theorem fdivN (n d : Nat) (h1 : 1 ≤ d) (h2 : d ≤ 1000) : gFdiv (natD n) (natD d) = some (natD (n / d)) := by
  show (if _ then _ else none) = _
  rw [if_pos (by
    rw [Bool.and_eq_true, decide_eq_true_eq]
    exact ⟨by omega, Nat.ble_eq_true_of_le (by omega)⟩)]
  rfl
end C

namespace C
open DD
def ov (v : Bool) (a b : Rc) : Int := min (ed v a : Int) (ed v b : Int) - max (st v a : Int) (st v b : Int)
def side (a b : Rc) : Nat := if ov true a b = 0 then (ov false a b).toNat else if ov false a b = 0 then (ov true a b).toNat else 0
def beh (v : Bool) (a b : Rc) : Nat := if ed v a = st v b then (ov (!v) a b).toNat else 0
def SL : List Rc → Nat
  | [] => 0
  | a :: ps => (ps.map (side a)).sum + SL ps
theorem ov_comm (v : Bool) (a b : Rc) : ov v a b = ov v b a := by
  unfold ov
  rw [Int.min_comm, Int.max_comm]
theorem side_beh {a b : Rc} (ha : ∀ v, st v a < ed v a) (hb : ∀ v, st v b < ed v b) : side a b = beh true a b + beh true b a + (beh false a b + beh false b a) := by
  have a1 := ha true
  have a2 := ha false
  have b1 := hb true
  have b2 := hb false
  unfold side beh
  rw [ov_comm (!true) b a, ov_comm (!false) b a]
  show (if ov true a b = 0 then (ov false a b).toNat else if ov false a b = 0 then (ov true a b).toNat else 0) = (if ed true a = st true b then (ov false a b).toNat else 0) + (if ed true b = st true a then (ov false a b).toNat else 0) + ((if ed false a = st false b then (ov true a b).toNat else 0) + (if ed false b = st false a then (ov true a b).toNat else 0))
  have e1 : ov true a b = min (ed true a : Int) (ed true b : Int) - max (st true a : Int) (st true b : Int) := rfl
  have e2 : ov false a b = min (ed false a : Int) (ed false b : Int) - max (st false a : Int) (st false b : Int) := rfl
  generalize ov true a b = x at e1 ⊢
  generalize ov false a b = y at e2 ⊢
  split <;> split <;> split <;> split <;> split <;> first | omega | (split <;> omega)
theorem beh_self {v : Bool} {a : Rc} (ha : st v a < ed v a) : beh v a a = 0 := by
  unfold beh
  rw [if_neg (by omega)]
theorem sum_add {α : Type} (f g : α → Nat) : ∀ xs : List α, (xs.map fun x => f x + g x).sum = (xs.map f).sum + (xs.map g).sum
  | [] => rfl
  | x :: xs => by
    rw [List.map_cons, List.map_cons, List.map_cons, List.sum_cons, List.sum_cons, List.sum_cons, sum_add f g xs]
    omega
theorem sum_zero {α : Type} (f : α → Nat) : ∀ xs : List α, (∀ x ∈ xs, f x = 0) → (xs.map f).sum = 0
  | [], _ => rfl
  | x :: xs, h => by
    rw [List.map_cons, List.sum_cons, h x List.mem_cons_self, sum_zero f xs fun y hy => h y (List.mem_cons_of_mem _ hy)]
theorem sum_swap {α β : Type} (f : α → β → Nat) (ys : List β) : ∀ xs : List α, (xs.map fun x => (ys.map fun y => f x y).sum).sum = (ys.map fun y => (xs.map fun x => f x y).sum).sum
  | [] => (sum_zero _ ys fun _ _ => rfl).symm
  | x :: xs => by
    rw [List.map_cons, List.sum_cons, sum_swap f ys xs]
    have e : (ys.map fun y => ((x :: xs).map fun x => f x y).sum) = ys.map fun y => f x y + (xs.map fun x => f x y).sum := List.map_congr_left fun y _ => by rw [List.map_cons, List.sum_cons]
    rw [e, sum_add]
theorem sum_count {α : Type} (P : α → Bool) : ∀ xs : List α, (xs.map fun x => if P x = true then 1 else 0).sum = xs.countP P
  | [] => rfl
  | x :: xs => by
    rw [List.map_cons, List.sum_cons, sum_count P xs, List.countP_cons]
    omega
theorem sum_const {α : Type} (f : α → Nat) (c : Nat) : ∀ xs : List α, (∀ x ∈ xs, f x = c) → (xs.map f).sum = xs.length * c
  | [], _ => by rw [List.map_nil, List.length_nil, Nat.zero_mul] <;> rfl
  | x :: xs, h => by
    rw [List.map_cons, List.sum_cons, h x List.mem_cons_self, sum_const f c xs fun y hy => h y (List.mem_cons_of_mem _ hy), List.length_cons, Nat.add_mul, Nat.one_mul, Nat.add_comm]
theorem sum_congr {α : Type} {f g : α → Nat} {xs : List α} (h : ∀ x ∈ xs, f x = g x) : (xs.map f).sum = (xs.map g).sum := by
  rw [List.map_congr_left h]
theorem count_between : ∀ (n lo hi : Nat), (List.range n).countP (fun x => decide (lo ≤ x ∧ x < hi)) = min n hi - lo
  | 0, lo, hi => by
    rw [List.range_zero, List.countP_nil]
    omega
  | n + 1, lo, hi => by
    rw [List.range_succ, List.countP_append, count_between n lo hi, List.countP_cons, List.countP_nil]
    by_cases h : lo ≤ n ∧ n < hi
    · rw [if_pos (decide_eq_true h)]
      omega
    · rw [if_neg (by rw [decide_eq_true_eq]; exact h)]
      omega
def SB (f : Rc → Rc → Nat) (ps qs : List Rc) : Nat := (ps.map fun a => (qs.map (f a)).sum).sum
theorem sb_cons_l (f : Rc → Rc → Nat) (a : Rc) (ps qs : List Rc) : SB f (a :: ps) qs = (qs.map (f a)).sum + SB f ps qs := by
  unfold SB
  rw [List.map_cons, List.sum_cons]
theorem sb_cons_r (f : Rc → Rc → Nat) (b : Rc) (ps qs : List Rc) : SB f ps (b :: qs) = (ps.map fun a => f a b).sum + SB f ps qs := by
  unfold SB
  rw [← sum_add]
  exact sum_congr fun a _ => by rw [List.map_cons, List.sum_cons]
theorem sl_pairs : ∀ ps : List Rc, (∀ r ∈ ps, ∀ v, st v r < ed v r) → SL ps = SB (beh true) ps ps + SB (beh false) ps ps
  | [], _ => rfl
  | a :: ps, h => by
    have ih := sl_pairs ps fun r hr => h r (List.mem_cons_of_mem _ hr)
    have ha := h a List.mem_cons_self
    rw [sb_cons_l, sb_cons_r, sb_cons_l, sb_cons_r, List.map_cons, List.map_cons, List.sum_cons, List.sum_cons, beh_self (ha true), beh_self (ha false)]
    show (ps.map (side a)).sum + SL ps = _
    rw [ih]
    have e : (ps.map (side a)).sum = (ps.map (beh true a)).sum + (ps.map fun b => beh true b a).sum + ((ps.map (beh false a)).sum + (ps.map fun b => beh false b a).sum) := by
      rw [← sum_add, ← sum_add, ← sum_add]
      exact sum_congr fun b hb => side_beh ha (h b (List.mem_cons_of_mem _ hb))
    omega
def ptv (v : Bool) (p q : Nat) : Nat × Nat := if v = true then (q, p) else (p, q)
theorem in_v {v : Bool} {p q : Nat} {r : Rc} : inR (ptv v p q).1 (ptv v p q).2 r = true ↔ st v r ≤ p ∧ p < ed v r ∧ st (!v) r ≤ q ∧ q < ed (!v) r := by
  cases v
  · show inR p q r = true ↔ r.t ≤ p ∧ p < r.t + r.h ∧ r.l ≤ q ∧ q < r.l + r.w
    unfold inR
    rw [decide_eq_true_eq]
  · show inR q p r = true ↔ r.l ≤ p ∧ p < r.l + r.w ∧ r.t ≤ q ∧ q < r.t + r.h
    unfold inR
    rw [decide_eq_true_eq]
    omega
section
variable {R : Rc} {ps : List Rc} {v : Bool}
theorem ov_count (a b : Rc) : (ov v a b).toNat = ((List.range (ed v a - st v a)).map fun x => if decide (st v b ≤ st v a + x ∧ st v a + x < ed v b) = true then 1 else 0).sum := by
  rw [sum_count]
  have e : (List.range (ed v a - st v a)).countP (fun x => decide (st v b ≤ st v a + x ∧ st v a + x < ed v b)) = (List.range (ed v a - st v a)).countP (fun x => decide (st v b - st v a ≤ x ∧ x < ed v b - st v a)) := List.countP_congr fun x hx => by
    rw [decide_eq_true_eq, decide_eq_true_eq]
    omega
  rw [e, count_between]
  unfold ov
  omega
theorem TileR.behind (k : TileR R ps) {a : Rc} (ha : a ∈ ps) (hlt : ed v a < ed v R) : (ps.map (beh v a)).sum = ed (!v) a - st (!v) a := by
  have e : (ps.map (beh v a)).sum = (ps.map fun b => ((List.range (ed (!v) a - st (!v) a)).map fun x => if decide (ed v a = st v b ∧ st (!v) b ≤ st (!v) a + x ∧ st (!v) a + x < ed (!v) b) = true then 1 else 0).sum).sum := sum_congr fun b hb => by
    unfold beh
    by_cases h : ed v a = st v b
    · rw [if_pos h, ov_count]
      refine sum_congr fun x _ => ?_
      simp only [h, true_and]
    · rw [if_neg h]
      exact (sum_zero _ _ fun x _ => if_neg (by rw [decide_eq_true_eq]; exact fun z => h z.1)).symm
  rw [e, sum_swap]
  have s := fun u => k.st_ed (v := u) ha
  rw [sum_const _ 1, List.length_range, Nat.mul_one]
  intro x hx
  rw [List.mem_range] at hx
  rw [sum_count]
  have s1 := s v
  have s2 := s (!v)
  have hR : inR (ptv v (ed v a) (st (!v) a + x)).1 (ptv v (ed v a) (st (!v) a + x)).2 R = true := in_v.mpr ⟨by omega, hlt, by omega, by omega⟩
  rw [← k.one _ _ hR]
  refine List.countP_congr fun b hb => ?_
  rw [in_v, decide_eq_true_eq]
  have sb := k.st_ed (v := v) hb
  constructor
  · rintro ⟨h1, h2, h3⟩
    exact ⟨by omega, by omega, h2, h3⟩
  · rintro ⟨h1, h2, h3, h4⟩
    refine ⟨?_, h3, h4⟩
    rcases Nat.lt_or_eq_of_le h1 with z | z
    · exfalso
      have ca : inR (ptv v (ed v a - 1) (st (!v) a + x)).1 (ptv v (ed v a - 1) (st (!v) a + x)).2 a = true := in_v.mpr ⟨by omega, by omega, by omega, by omega⟩
      have cb : inR (ptv v (ed v a - 1) (st (!v) a + x)).1 (ptv v (ed v a - 1) (st (!v) a + x)).2 b = true := in_v.mpr ⟨by omega, by omega, h3, h4⟩
      obtain ⟨i, hi⟩ := List.mem_iff_getElem?.mp ha
      obtain ⟨j, hj⟩ := List.mem_iff_getElem?.mp hb
      have := k.apart hi hj ca cb
      subst this
      rw [hi] at hj
      cases hj
      omega
    · exact z.symm
theorem TileR.at_end (k : TileR R ps) {a : Rc} (ha : a ∈ ps) (he : ed v a = ed v R) : (ps.map (beh v a)).sum = 0 := sum_zero _ _ fun b hb => by
  have sb := k.st_ed (v := v) hb
  unfold beh
  rw [if_neg (by omega)]
theorem TileR.last (k : TileR R ps) (h1 : 1 ≤ R.h) (w1 : 1 ≤ R.w) : (ps.map fun a => if ed v a = ed v R then ed (!v) a - st (!v) a else 0).sum = ed (!v) R - st (!v) R := by
  have hv := (in_self h1 w1 v).2.1
  have e : (ps.map fun a => if ed v a = ed v R then ed (!v) a - st (!v) a else 0).sum = (ps.map fun a => ((List.range (ed (!v) R - st (!v) R)).map fun x => if decide (ed v a = ed v R ∧ st (!v) a ≤ st (!v) R + x ∧ st (!v) R + x < ed (!v) a) = true then 1 else 0).sum).sum := sum_congr fun a ha => by
    have s := k.st_ed (v := !v) ha
    by_cases h : ed v a = ed v R
    · rw [if_pos h]
      have := ov_count (v := !v) R a
      unfold ov at this
      rw [show ed (!v) a - st (!v) a = ((min (ed (!v) R : Int) (ed (!v) a : Int)) - max (st (!v) R : Int) (st (!v) a : Int)).toNat by omega, this]
      refine sum_congr fun x _ => ?_
      simp only [h, true_and]
    · rw [if_neg h]
      exact (sum_zero _ _ fun x _ => if_neg (by rw [decide_eq_true_eq]; exact fun z => h z.1)).symm
  rw [e, sum_swap, sum_const _ 1, List.length_range, Nat.mul_one]
  intro x hx
  rw [List.mem_range] at hx
  rw [sum_count]
  have hR : inR (ptv v (ed v R - 1) (st (!v) R + x)).1 (ptv v (ed v R - 1) (st (!v) R + x)).2 R = true := in_v.mpr ⟨by omega, by omega, by omega, by omega⟩
  rw [← k.one _ _ hR]
  refine List.countP_congr fun b hb => ?_
  rw [in_v, decide_eq_true_eq]
  have sb := k.st_ed (v := v) hb
  omega
theorem TileR.sb (k : TileR R ps) (h1 : 1 ≤ R.h) (w1 : 1 ≤ R.w) : SB (beh v) ps ps + (ed (!v) R - st (!v) R) = (ps.map fun a => ed (!v) a - st (!v) a).sum := by
  unfold SB
  rw [← k.last (v := v) h1 w1, ← sum_add]
  refine sum_congr fun a ha => ?_
  have s := k.st_ed (v := v) ha
  by_cases h : ed v a = ed v R
  · rw [if_pos h, k.at_end ha h, Nat.zero_add]
  · rw [if_neg h, k.behind ha (by omega), Nat.add_zero]
theorem TileR.seam (k : TileR R ps) (h1 : 1 ≤ R.h) (w1 : 1 ≤ R.w) : SL ps + (R.h + R.w) = (ps.map fun a => a.h + a.w).sum := by
  rw [sl_pairs ps fun r hr u => (k.st_ed (v := u) hr).2.1]
  have a := k.sb (v := true) h1 w1
  have b := k.sb (v := false) h1 w1
  have ea : (ps.map fun a => ed (!true) a - st (!true) a) = ps.map fun a => a.h := List.map_congr_left fun r _ => by
    show r.t + r.h - r.t = r.h
    omega
  have eb : (ps.map fun a => ed (!false) a - st (!false) a) = ps.map fun a => a.w := List.map_congr_left fun r _ => by
    show r.l + r.w - r.l = r.w
    omega
  have ra : ed (!true) R - st (!true) R = R.h := by
    show R.t + R.h - R.t = R.h
    omega
  have rb : ed (!false) R - st (!false) R = R.w := by
    show R.l + R.w - R.l = R.w
    omega
  rw [ea, ra] at a
  rw [eb, rb] at b
  have s := sum_add (fun r : Rc => r.h) (fun r : Rc => r.w) ps
  rw [s]
  omega
theorem sum_parts (f : Rc → Nat) (p : Nat) : ((fs v p ps).map f).sum + ((sn v p ps).map f).sum = (ps.map f).sum := by
  unfold fs sn
  induction ps with
  | nil => rfl
  | cons r ps ih =>
    rw [List.filter_cons, List.filter_cons, List.map_cons, List.sum_cons]
    by_cases h : st v r < p
    · rw [if_pos (decide_eq_true h), if_neg (by rw [decide_eq_true_eq]; omega), List.map_cons, List.sum_cons]
      omega
    · rw [if_neg (by rw [decide_eq_true_eq]; exact h), if_pos (decide_eq_true (by omega)), List.map_cons, List.sum_cons]
      omega
def lnS (v : Bool) (R : Rc) : Nat := if v = true then R.h else R.w
theorem Seam.length {p : Nat} (s : Seam v p R ps) (k : TileR R ps) (h1 : 1 ≤ R.h) (w1 : 1 ≤ R.w) : SL ps = SL (fs v p ps) + SL (sn v p ps) + lnS v R := by
  have pa := cutA_pos h1 w1 s.lo s.hi
  have pb := cutB_pos h1 w1 s.lo s.hi
  have a := (s.tileA k).seam pa.1 pa.2
  have b := (s.tileB k).seam pb.1 pb.2
  have c := k.seam h1 w1
  have d := sum_parts (v := v) (ps := ps) (fun r => r.h + r.w) p
  have lo := s.lo
  have hi := s.hi
  cases v
  · have lo : R.t < p := lo
    have hi : p < R.t + R.h := hi
    have a : SL (fs false p ps) + (p - R.t + R.w) = _ := a
    have b : SL (sn false p ps) + (R.t + R.h - p + R.w) = _ := b
    show SL ps = _ + R.w
    omega
  · have lo : R.l < p := lo
    have hi : p < R.l + R.w := hi
    have a : SL (fs true p ps) + (R.h + (p - R.l)) = _ := a
    have b : SL (sn true p ps) + (R.h + (R.l + R.w - p)) = _ := b
    show SL ps = _ + R.h
    omega
end
end C

namespace C
open PySem DD L2
abbrev Tr := Nat × Nat × Nat
theorem flatMap_len {α β : Type} (f : α → List β) (m : Nat) (h : ∀ x, (f x).length ≤ m) : ∀ xs : List α, (xs.flatMap f).length ≤ xs.length * m
  | [] => Nat.zero_le _
  | x :: xs => by
    rw [List.flatMap_cons, List.length_append, List.length_cons, Nat.add_mul, Nat.one_mul]
    have := h x
    have := flatMap_len f m h xs
    omega
theorem sum_cast : ∀ xs : List Nat, (xs.map fun (n : Nat) => (n : Int)).sum = ((xs.sum : Nat) : Int)
  | [] => rfl
  | x :: xs => by
    rw [List.map_cons, List.sum_cons, List.sum_cons, sum_cast xs]
    omega
end C

namespace DD
open PySem L2
section
variable {α : Type} {fi : En → Option (List D)} {gd : D → En → Option En} {g : En → Option Out} {en : En}
end
end DD

namespace C
open PySem DD L2
def Cell.l : Cell → List Nat
  | .pl a => [a]
  | .dg a s b => [a, if s then 92 else 47, b]
theorem sum_le {α : Type} (f : α → Nat) (n : Nat) : ∀ xs : List α, (∀ x ∈ xs, f x ≤ n) → (xs.map f).sum ≤ xs.length * n
  | [], _ => Nat.zero_le _
  | x :: xs, h => by
    have h1 := h x List.mem_cons_self
    have h2 := sum_le f n xs fun y hy => h y (List.mem_cons_of_mem _ hy)
    rw [List.map_cons, List.sum_cons, List.length_cons, Nat.add_mul, Nat.one_mul]
    omega
theorem atI_last {α : Type} (xs : List α) (x : α) : atI (xs ++ [x]) (-1) = some x := by
  unfold atI ixN
  simp
  rw [if_pos (by omega)]
  have : (-1 + ((xs.length : Int) + 1)).toNat = xs.length := by omega
  rw [Option.bind_some, this]
  simp
end C

namespace C
open PySem DD L2
theorem mul2 (n : Nat) : gMulI (.int 2) (natD n) = some (natD (2 * n)) := by
  show gMulI (.int 2) (.int (n : Int)) = _
  rw [gMul_2] <;> rfl
theorem modN (n d : Nat) (h1 : 1 ≤ d) : gMod (natD n) (natD d) = some (natD (n % d)) := mod_nat h1
theorem eq_nat (a b : Nat) : gEq (natD a) (natD b) = some (.bl (decide (a = b))) := by
  refine (eq_ints _ _).trans ?_
  congr 2
  exact decide_eq_decide.mpr (by omega)
theorem at_ints {ds : List Int} {i a : Nat} (h : ds[i]? = some (a : Int)) : gIx (.lst (ds.map D.int)) (natD i) = some (natD a) := by
  show atI (ds.map D.int) (i : Int) = _
  rw [atI_map, h] <;> rfl
theorem addB_lst {xs ys : List D} (hl : xs.length + ys.length ≤ 1000) : gAddB (.lst xs) (.lst ys) = some (.lst (xs ++ ys)) := by
  show (if _ then _ else none : Option D).or none = _
  rw [if_pos (lim_of hl)] <;> rfl
end C

namespace C
open PySem DD L2
end C

namespace C
open PySem DD L2
def sel (ps : List Rc) (ns : List Nat) : List Rc := ns.map fun i => ps.getD i rc0
def fN (v : Bool) (p : Nat) (ps : List Rc) (ns : List Nat) : List Nat := ns.filter fun i => decide (st v (ps.getD i rc0) < p)
def sN (v : Bool) (p : Nat) (ps : List Rc) (ns : List Nat) : List Nat := ns.filter fun i => decide (p ≤ st v (ps.getD i rc0))
theorem sel_fN {v : Bool} {p : Nat} {ps : List Rc} {ns : List Nat} : sel ps (fN v p ps ns) = fs v p (sel ps ns) := by
  unfold sel fN fs
  rw [List.filter_map] <;> rfl
theorem sel_sN {v : Bool} {p : Nat} {ps : List Rc} {ns : List Nat} : sel ps (sN v p ps ns) = sn v p (sel ps ns) := by
  unfold sel sN sn
  rw [List.filter_map] <;> rfl
theorem sel_len {ps : List Rc} {ns : List Nat} : (sel ps ns).length = ns.length := List.length_map _
theorem fN_sel_len {v : Bool} {p : Nat} {ps : List Rc} {ns : List Nat} : (fN v p ps ns).length = (fs v p (sel ps ns)).length := by rw [← sel_fN, sel_len]
theorem sN_sel_len {v : Bool} {p : Nat} {ps : List Rc} {ns : List Nat} : (sN v p ps ns).length = (sn v p (sel ps ns)).length := by rw [← sel_sN, sel_len]
inductive Tk where
  | n (i : Nat)
  | s (v : Bool)
inductive Plan (ps : List Rc) : Rc → List Nat → List Tk → Prop
  | one {R : Rc} {i : Nat} : i < ps.length → ps.getD i rc0 = R → Plan ps R [i] [.n i]
  | cut {R : Rc} {ns : List Nat} {v : Bool} {p : Nat} {a b : List Tk} : TileR R (sel ps ns) → 1 ≤ R.h → 1 ≤ R.w → Seam v p R (sel ps ns) → Plan ps (cutA v p R) (fN v p ps ns) a → Plan ps (cutB v p R) (sN v p ps ns) b → Plan ps R ns (a ++ b ++ [.s v])
theorem Plan.len {ps : List Rc} {R : Rc} {ns : List Nat} {pl : List Tk} (h : Plan ps R ns pl) : pl.length + 1 = 2 * ns.length := by
  induction h with
  | one _ _ => rfl
  | @cut R ns v p a b k _ _ s _ _ ia ib =>
    have := parts_len (v := v) (p := p) (ps := sel ps ns)
    rw [fN_sel_len] at ia
    rw [sN_sel_len] at ib
    rw [sel_len] at this
    rw [List.length_append, List.length_append, List.length_singleton]
    omega
def Goes (gd : D → En → Option En) (g : En → Option Out) : List D → En → En → Prop
  | [], en, en' => en = en'
  | d :: ds, en, en' => ∃ en1 en2, gd d en = some en1 ∧ (g en1 = some (.nx en2) ∨ g en1 = some (.ct en2)) ∧ Goes gd g ds en2 en'
theorem Goes.append {gd : D → En → Option En} {g : En → Option Out} : ∀ {xs ys : List D} {a b c : En}, Goes gd g xs a b → Goes gd g ys b c → Goes gd g (xs ++ ys) a c
  | [], _, _, _, _, h, h' => by
    have h : _ = _ := h
    subst h
    exact h'
  | x :: xs, ys, a, b, c, ⟨e1, e2, h1, h2, h3⟩, h' => ⟨e1, e2, h1, h2, Goes.append h3 h'⟩
theorem Goes.one {gd : D → En → Option En} {g : En → Option Out} {d : D} {a b e1 : En} (h : gd d a = some e1) (h' : g e1 = some (.nx b)) : Goes gd g [d] a b := ⟨e1, b, h, .inl h', rfl⟩
theorem Goes.go {gd : D → En → Option En} {g : En → Option Out} : ∀ {xs : List D} {a b : En}, Goes gd g xs a b → forGo gd g xs a = some (.nx b)
  | [], _, _, h => by
    have h : _ = _ := h
    subst h
    rfl
  | x :: xs, a, b, ⟨e1, e2, h1, h2, h3⟩ => by
    show (gd x a).bind _ = _
    rw [h1]
    show (g e1).bind _ = _
    rcases h2 with h2 | h2
    · rw [h2]
      exact Goes.go h3
    · rw [h2]
      exact Goes.go h3
end C

namespace C
open PySem DD L2
abbrev XY := Nat × Nat
abbrev KL := List Key
def keyL (q : XY) : KL := [.inl (q.1 : Int), .inl (q.2 : Int)]
theorem keyL_inj {p q : XY} : keyL p = keyL q ↔ p = q := by
  constructor
  · intro h
    have h1 : (Sum.inl (p.1 : Int) : Key) = Sum.inl (q.1 : Int) := (List.cons.inj h).1
    have h2 : (Sum.inl (p.2 : Int) : Key) = Sum.inl (q.2 : Int) := (List.cons.inj (List.cons.inj h).2).1
    have h1 := Sum.inl.inj h1
    have h2 := Sum.inl.inj h2
    exact Prod.ext (by omega) (by omega)
  · rintro rfl
    rfl
theorem look_put {κ : Type} [DecidableEq κ] (k : κ) (x : D) : ∀ (ks : List κ) (ds : List D), ds.length = ks.length → ∀ j, lookG (putG ks ds k x).1 (putG ks ds k x).2 j = if k = j then some x else lookG ks ds j
  | [], [], _, j => rfl
  | a :: ks, d :: ds, h, j => by
    have ih := look_put k x ks ds (by simpa using h) j
    by_cases e : a = k
    · subst e
      have e1 : putG (a :: ks) (d :: ds) a x = (a :: ks, x :: ds) := if_pos rfl
      rw [e1]
      show (if a = j then some x else lookG ks ds j) = if a = j then some x else if a = j then some d else lookG ks ds j
      split
      · rfl
      · rfl
    · have e1 : putG (a :: ks) (d :: ds) k x = (a :: (putG ks ds k x).1, d :: (putG ks ds k x).2) := if_neg e
      rw [e1]
      show (if a = j then some d else lookG (putG ks ds k x).1 (putG ks ds k x).2 j) = if k = j then some x else if a = j then some d else lookG ks ds j
      rw [ih]
      by_cases e2 : a = j
      · rw [if_pos e2, if_pos e2, if_neg fun z => e (e2.trans z.symm)]
      · rw [if_neg e2, if_neg e2]
theorem put_keys {κ : Type} [DecidableEq κ] (k : κ) (x : D) : ∀ (ks : List κ) (ds : List D), ds.length = ks.length → (putG ks ds k x).1 = (if k ∈ ks then ks else ks ++ [k]) ∧ (putG ks ds k x).2.length = (putG ks ds k x).1.length
  | [], [], _ => ⟨rfl, rfl⟩
  | a :: ks, d :: ds, h => by
    obtain ⟨i1, i2⟩ := put_keys k x ks ds (by simpa using h)
    by_cases e : a = k
    · subst e
      have e1 : putG (a :: ks) (d :: ds) a x = (a :: ks, x :: ds) := if_pos rfl
      rw [e1, if_pos List.mem_cons_self]
      exact ⟨rfl, by simpa using h⟩
    · have e1 : putG (a :: ks) (d :: ds) k x = (a :: (putG ks ds k x).1, d :: (putG ks ds k x).2) := if_neg e
      rw [e1]
      refine ⟨?_, by simpa using i2⟩
      show a :: (putG ks ds k x).1 = _
      rw [i1]
      by_cases m : k ∈ ks
      · rw [if_pos m, if_pos (List.mem_cons_of_mem _ m)]
      · rw [if_neg m, if_neg (fun z => (List.mem_cons.mp z).elim (fun z => e z.symm) m)] <;> rfl
structure Own (ks : List KL) (ds : List D) (n : Nat) (f : XY → Option D) : Prop where
  len : ds.length = ks.length
  nd : ks.Nodup
  most : ks.length ≤ n
  at_ : ∀ q, lookG ks ds (keyL q) = f q
theorem Own.put {ks : List KL} {ds : List D} {n : Nat} {f : XY → Option D} (o : Own ks ds n f) (q : XY) (x : D) : Own (putG ks ds (keyL q) x).1 (putG ks ds (keyL q) x).2 (n + 1) (fun p => if q = p then some x else f p) := by
  obtain ⟨e1, e2⟩ := put_keys (keyL q) x ks ds o.len
  refine ⟨e2, ?_, ?_, fun p => ?_⟩
  · rw [e1]
    split
    · exact o.nd
    · rename_i m
      rw [List.nodup_append]
      exact ⟨o.nd, List.nodup_cons.mpr ⟨List.not_mem_nil, List.nodup_nil⟩, fun a ha b hb z => m (by rw [List.mem_singleton] at hb; rw [← hb, ← z]; exact ha)⟩
  · rw [e1]
    have := o.most
    split
    · omega
    · rw [List.length_append, List.length_singleton]
      omega
  · rw [look_put _ _ _ _ o.len, o.at_]
    by_cases e : q = p
    · rw [if_pos e, if_pos (keyL_inj.mpr e)]
    · rw [if_neg e, if_neg fun z => e (keyL_inj.mp z)]
theorem Own.congr {ks : List KL} {ds : List D} {n m : Nat} {f g : XY → Option D} (o : Own ks ds n f) (h : ∀ q, f q = g q) (hm : n ≤ m) : Own ks ds m g := ⟨o.len, o.nd, Nat.le_trans o.most hm, fun q => (o.at_ q).trans (h q)⟩
theorem in_any {α : Type} [DecidableEq α] (f : α → D) (he : ∀ x y, PyData.eqv (py (f x)) (py (f y)) = decide (x = y)) (x : α) (xs : List α) : ((pyAll (xs.map f)).any fun z => PyData.eqv z (py (f x))) = decide (x ∈ xs) := by
  rw [pyAll_map, List.any_map]
  refine Bool.eq_iff_iff.mpr ?_
  rw [List.any_eq_true, decide_eq_true_eq]
  constructor
  · rintro ⟨y, hy, h⟩
    have h : PyData.eqv (py (f y)) (py (f x)) = true := h
    rw [he, decide_eq_true_eq] at h
    rw [← h]
    exact hy
  · intro h
    refine ⟨x, h, ?_⟩
    show PyData.eqv (py (f x)) (py (f x)) = true
    rw [he, decide_eq_true rfl]
theorem deep_list {α : Type} (f : α → D) {n : Nat} (hf : ∀ x, deep n (f x) = true) (xs : List α) : deepAll n (xs.map f) = true := deepAll_iff.mpr fun d hd => by
  obtain ⟨y, _, rfl⟩ := List.mem_map.mp hd
  exact hf y
theorem in_list {α : Type} [DecidableEq α] (f : α → D) (hf : ∀ x, deep 58 (f x) = true) (he : ∀ x y, PyData.eqv (py (f x)) (py (f y)) = decide (x = y)) (x : α) (xs : List α) : gInL (f x) (.lst (xs.map f)) = some (.bl (decide (x ∈ xs))) := by
  show (if deep 58 (f x) = true ∧ deepAll 58 (xs.map f) = true then some (D.bl _) else none) = _
  rw [if_pos ⟨hf x, deep_list f hf xs⟩, in_any f he]
end C

namespace C
open PySem DD L2
def Fab : Cell → Bool
  | .pl _ => true
  | .dg _ _ _ => false
def Let (c : Cell) : Prop := match c with
  | .pl a => 97 ≤ a ∧ a ≤ 122
  | .dg a _ b => a < 1000 ∧ b < 1000
theorem lc2_gen {α β : Type} {en : En} {gd : D → En → Option En} {fi1 : En → Option (List D)} {gd1 : D → En → Option En} {fe : En → Option D} {vs1 : List Nat} (f : α → D) (g : α → List β) (k1 k2 : α → β → D) : ∀ (xs : List α), (∀ x ∈ xs, ∃ en1, gd (f x) en = some en1 ∧ calmE en1 = true ∧ fi1 en1 = some ((g x).map (k1 x)) ∧ ∀ y ∈ g x, ∃ en2, gd1 (k1 x y) (wipeE en1 vs1) = some en2 ∧ fe en2 = some (k2 x y)) →
    lc2Go gd fYes fi1 gd1 fYes fe vs1 en (xs.map f) = some (xs.flatMap fun x => (g x).map (k2 x))
  | [], _ => rfl
  | x :: r, H => by
    obtain ⟨en1, h1, h2, h3, h4⟩ := H x List.mem_cons_self
    rw [List.map_cons]
    unfold lc2Go
    rw [h1]
    show (if calmE en1 = true then _ else none) = _
    rw [if_pos h2]
    show ((fi1 en1).bind fun ds1 => (lcGo gd1 fYes fe (wipeE en1 vs1) ds1).bind fun ys => (lc2Go gd fYes fi1 gd1 fYes fe vs1 en (r.map f)).map fun zs => ys ++ zs) = _
    rw [h3]
    show ((lcGo gd1 fYes fe (wipeE en1 vs1) ((g x).map (k1 x))).bind fun ys => (lc2Go gd fYes fi1 gd1 fYes fe vs1 en (r.map f)).map fun zs => ys ++ zs) = _
    rw [lcGo_xs (k1 x) (k2 x) (g x) h4, lc2_gen f g k1 k2 r fun y hy => H y (List.mem_cons_of_mem _ hy)] <;> rfl
theorem bools_map {α : Type} (b : α → Bool) : ∀ xs : List α, boolsOf (xs.map fun x => D.bl (b x)) = some (xs.map b)
  | [] => rfl
  | x :: xs => by
    show (boolsOf (xs.map fun x => D.bl (b x))).map (b x :: ·) = _
    rw [bools_map b xs] <;> rfl
structure PatL (h w : Nat) (p : List (List Cell)) : Prop where
  rect : Rect h w p
  let_ : ∀ x y, x < h → y < w → Let (at2 p x y)
  h1 : 1 ≤ h
  h10 : h ≤ 10
  w1 : 1 ≤ w
  w10 : w ≤ 10
section
variable {h w : Nat} {p : List (List Cell)}
structure One (h w : Nat) (p : List (List Cell)) (r : Rc) : Prop where
  h1 : 1 ≤ r.h
  w1 : 1 ≤ r.w
  th : r.t + r.h ≤ h
  lw : r.l + r.w ≤ w
  one : (r.h = 1 ∧ r.w = 1) ∨ ∃ c, Fab c = true ∧ ∀ x y, inR x y r = true → at2 p x y = c
end
end C

namespace C
open PySem DD L2
theorem at_natL {α : Type} (f : α → D) (xs : List α) (z : α) {i : Nat} (h : i < xs.length) : gIx (.lst (xs.map f)) (natD i) = some (f (xs.getD i z)) := by
  show atI (xs.map f) (i : Int) = _
  rw [atI_map, List.getElem?_eq_getElem h, List.getD_eq_getElem?_getD, List.getElem?_eq_getElem h] <;> rfl
end C

namespace C
open PySem DD L2
def Cov (C : Rc) (ps : List Rc) : Prop := ∀ v, ((∃ r ∈ ps, st v r = st v C) ∧ ∀ r ∈ ps, st v C ≤ st v r) ∧ ((∃ r ∈ ps, ed v r = ed v C) ∧ ∀ r ∈ ps, ed v r ≤ ed v C)
theorem TileR.cov {R : Rc} {ps : List Rc} (k : TileR R ps) (h1 : 1 ≤ R.h) (w1 : 1 ≤ R.w) : Cov R ps := fun v => ⟨st_min k h1 w1 v, ed_max k h1 w1 v⟩
def inb (S r : Rc) : Bool := decide (S.t ≤ r.t ∧ r.t + r.h ≤ S.t + S.h ∧ S.l ≤ r.l ∧ r.l + r.w ≤ S.l + S.w)
end C

namespace C
open PySem DD L2
def ovl (a b : Rc) : Bool := decide (0 < ov false a b) && decide (0 < ov true a b)
def mem (ps : List Rc) (S : Rc) : List Nat := whereP (fun r => ovl r S) ps
theorem zip_range {α : Type} (z : α) (xs : List α) : xs.zipIdx = (List.range xs.length).map fun j => (xs.getD j z, j) := by
  refine List.ext_getElem? fun i => ?_
  rw [List.getElem?_zipIdx, List.getElem?_map]
  by_cases h : i < xs.length
  · rw [List.getElem?_eq_getElem h, List.getElem?_range h]
    show some (xs[i], 0 + i) = some (xs.getD i z, i)
    rw [List.getD_eq_getElem?_getD, List.getElem?_eq_getElem h, Nat.zero_add] <;> rfl
  · rw [List.getElem?_eq_none (by omega), List.getElem?_eq_none (by rw [List.length_range]; omega)] <;> rfl
theorem where_range {α : Type} (P : α → Bool) (z : α) (xs : List α) : (List.range xs.length).filter (fun j => P (xs.getD j z)) = whereP P xs := by
  unfold whereP
  rw [zip_range z, List.filter_map, List.map_map]
  exact (List.map_id _).symm
theorem mem_iff {ps : List Rc} {S : Rc} {i : Nat} : i ∈ mem ps S ↔ i < ps.length ∧ ovl (ps.getD i rc0) S = true := by
  unfold mem
  rw [← where_range _ rc0, List.mem_filter, List.mem_range]
theorem zip_map {α β : Type} (f : α → D) (g : β → D) : ∀ (xs : List α) (ys : List β), zipD (xs.map f) (ys.map g) = (xs.zip ys).map fun z => D.tup [f z.1, g z.2]
  | [], _ => by rw [List.zip_nil_left] <;> rfl
  | _ :: _, [] => by rw [List.zip_nil_right] <;> rfl
  | x :: xs, y :: ys => by
    have ih := zip_map f g xs ys
    show D.tup [f x, g y] :: zipD (xs.map f) (ys.map g) = _
    rw [ih] <;> rfl
instance : DecidableEq Rc := fun a b => decidable_of_iff (a.t = b.t ∧ a.l = b.l ∧ a.h = b.h ∧ a.w = b.w) ⟨fun h => Rc.ext h.1 h.2.1 h.2.2.1 h.2.2.2, fun h => by subst h; exact ⟨rfl, rfl, rfl, rfl⟩⟩
end C

namespace C
open PySem DD L2
def ins (S : Rc) (ps : List Rc) : List Rc := ps.filter fun r => ovl r S
theorem Sew.seam {S : Rc} {qs : List Rc} (s : Sew S qs) (h : seams S qs = []) : qs.length = 1 := by
  cases s with
  | one h => exact h
  | @cut _ _ v p sm _ _ =>
    have : (v, p) ∈ seams S qs := mem_seams.mpr sm
    rw [h] at this
    exact absurd this List.not_mem_nil
end C

namespace C
open PySem DD L2
theorem gt_nat (a b : Nat) : gGt (natD a) (natD b) = some (.bl (decide (b < a))) := by
  show some (D.bl (decide ((b : Int) < (a : Int)))) = _
  congr 2
  exact decide_eq_decide.mpr Int.ofNat_lt
theorem le_nat (a b : Nat) : gLe (natD a) (natD b) = some (.bl (decide (a ≤ b))) := by
  show some (D.bl (decide ((a : Int) ≤ (b : Int)))) = _
  congr 2
  exact decide_eq_decide.mpr Int.ofNat_le
structure CoreOf (R : Rc) (ps : List Rc) (S : Rc) : Prop where
  t : TileR S (ins S ps)
  h : 1 ≤ S.h
  w : 1 ≤ S.w
  no : seams S (ins S ps) = []
  i : inb R S = true
  two : (ins S ps).length ≠ 1
end C

namespace DD
open PySem L2 C
section
variable {fi : En → Option (List D)} {gd : D → En → Option En} {g : En → Option Out} {en : En}
end
end DD

namespace C
open PySem DD L2
def g_least_width : En → Option Out := (sSeq (sSet 2 (dL (lLst (aCons (dVar 0) (aCons (dTup (aCons (d2 gIx (dVar 0) (dC (.int 1))) (aCons (d2 gIx (dVar 0) (dC (.int 0))) aNil))) aNil)))))
 (sRet (dMinDefN (dL (lLc (iAny (dVar 2)) (gSet 3) (tBl (d2 gLe (d2 gIx (dVar 3) (dC (.int 1))) (dVar 1))) (d2 gIx (dVar 3) (dC (.int 0))) [3])))))
def F_least_width : List D → Option D := runD g_least_width 4 2
def g_turned_length : En → Option Out := (sSeq (sFor (iAny (dL (lSrt (dL (lCat (lLst (aCons (dC (.int 0)) aNil)) (lLc2 (iAny (dVar 0)) (gSet 4) fYes (iAny (dVar 4)) (gSet 5) fYes (dVar 5) [4, 5] [5])))))) (gSet 2) (sSeq (sSet 3 (dL (lLc (iAny (dVar 0)) (gSet 4) fYes (dCall F_least_width (aCons (dVar 4) (aCons (dVar 2) aNil))) [4])))
 (sIf (tAnd2 (tBl (d2 gNotInL (dC .non) (dVar 3))) (tBl (d2 gLe (dCB gSum (aCons (dVar 3) aNil)) (dVar 1)))) (sRet (dVar 2)) sNil)))
 (sRet (dC .non)))
def F_turned_length : List D → Option D := runD g_turned_length 6 2
def g_row_length : En → Option Out := (sSeq (sSet 4 (dL (lLc (iAny (dVar 1)) (gSet 5) fYes (d2 gIx (dVar 0) (dVar 5)) [5])))
 (sSeq (sIf (tBl (dVar 3)) (sRet (dCall F_turned_length (aCons (dVar 4) (aCons (dVar 2) aNil)))) sNil)
 (sSeq (sIf (tBl (d2 gGt (dCB gSum (aCons (dL (lLc (iAny (dVar 4)) (gSet 6) fYes (d2 gIx (dVar 6) (dC (.int 0))) [6])) aNil)) (dVar 2))) (sRet (dC .non)) sNil)
 (sRet (dMaxDef 0 (dL (lLc (iAny (dVar 4)) (gSet 6) fYes (d2 gIx (dVar 6) (dC (.int 1))) [6])))))))
def F_row_length : List D → Option D := runD g_row_length 7 4
abbrev Pc := Nat × Nat
def prD (p : Pc) : D := .tup [natD p.1, natD p.2]
def optN : Option Nat → D
  | none => .non
  | some n => natD n
def lwO (L : Nat) (p : Pc) : Option Nat := if p.2 ≤ L then (if p.1 ≤ L then some (min p.1 p.2) else some p.1) else if p.1 ≤ L then some p.2 else none
def Ch (t : Bool) : List Pc → Nat → Nat → Nat → Nat → Prop
  | [], a, l, a', l' => a = a' ∧ l = l'
  | p :: ps, a, l, a', l' => Ch t ps (a + p.1) (max l p.2) a' l' ∨ (t = true ∧ Ch t ps (a + p.2) (max l p.1) a' l')
theorem ch_mono {t : Bool} : ∀ {ps : List Pc} {a l a' l' : Nat}, Ch t ps a l a' l' → a ≤ a' ∧ l ≤ l'
  | [], _, _, _, _, h => ⟨Nat.le_of_eq h.1, Nat.le_of_eq h.2⟩
  | p :: ps, a, l, a', l', h => by
    rcases h with h | ⟨_, h⟩
    · have := ch_mono h
      omega
    · have := ch_mono h
      omega
def lwS (L : Nat) (ps : List Pc) : Nat := (ps.map fun p => (lwO L p).getD 0).sum
theorem ch_one {t : Bool} : ∀ {ps : List Pc} {a l a' l' L : Nat}, Ch t ps a l a' l' → l' ≤ L → (∀ p ∈ ps, (lwO L p).isSome = true) ∧ a + lwS L ps ≤ a'
  | [], a, l, a', l', L, h, _ => ⟨(fun p hp => nomatch hp), by rw [h.1]; exact Nat.le_refl _⟩
  | p :: ps, a, l, a', l', L, h, hL => by
    unfold lwS
    rw [List.map_cons, List.sum_cons]
    rcases h with h | ⟨_, h⟩
    · have m := (ch_mono h).2
      obtain ⟨h1, h2⟩ := ch_one h hL
      unfold lwS at h2
      have e : ∃ x, lwO L p = some x ∧ x ≤ p.1 := by
        unfold lwO
        rw [if_pos (by omega)]
        split
        · exact ⟨_, rfl, by omega⟩
        · exact ⟨_, rfl, Nat.le_refl _⟩
      obtain ⟨x, e, hx⟩ := e
      refine ⟨fun q hq => ?_, ?_⟩
      · rcases List.mem_cons.mp hq with rfl | hq
        · rw [e] <;> rfl
        · exact h1 q hq
      · rw [e]
        show a + (x + _) ≤ a'
        omega
    · have m := (ch_mono h).2
      obtain ⟨h1, h2⟩ := ch_one h hL
      unfold lwS at h2
      have e : ∃ x, lwO L p = some x ∧ x ≤ p.2 := by
        unfold lwO
        split
        · rw [if_pos (by omega)]
          exact ⟨_, rfl, by omega⟩
        · rw [if_pos (by omega)]
          exact ⟨_, rfl, Nat.le_refl _⟩
      obtain ⟨x, e, hx⟩ := e
      refine ⟨fun q hq => ?_, ?_⟩
      · rcases List.mem_cons.mp hq with rfl | hq
        · rw [e] <;> rfl
        · exact h1 q hq
      · rw [e]
        show a + (x + _) ≤ a'
        omega
theorem ch_side {t : Bool} : ∀ {ps : List Pc} {a l a' l' : Nat}, Ch t ps a l a' l' → l' = l ∨ ∃ p ∈ ps, l' = p.1 ∨ l' = p.2
  | [], a, l, a', l', h => .inl h.2.symm
  | p :: ps, a, l, a', l', h => by
    rcases h with h | ⟨_, h⟩
    · rcases ch_side h with e | ⟨q, hq, e⟩
      · by_cases c : p.2 ≤ l
        · exact .inl (by omega)
        · exact .inr ⟨p, List.mem_cons_self, .inr (by omega)⟩
      · exact .inr ⟨q, List.mem_cons_of_mem _ hq, e⟩
    · rcases ch_side h with e | ⟨q, hq, e⟩
      · by_cases c : p.1 ≤ l
        · exact .inl (by omega)
        · exact .inr ⟨p, List.mem_cons_self, .inl (by omega)⟩
      · exact .inr ⟨q, List.mem_cons_of_mem _ hq, e⟩
theorem ch_two : ∀ {ps : List Pc} {a l L : Nat}, (∀ p ∈ ps, (lwO L p).isSome = true) → ∃ l', Ch true ps a l (a + lwS L ps) l' ∧ l' ≤ max l L
  | [], a, l, L, _ => ⟨l, ⟨rfl, rfl⟩, by omega⟩
  | p :: ps, a, l, L, h => by
    have hp := h p List.mem_cons_self
    have ht := fun q hq => h q (List.mem_cons_of_mem _ hq)
    have e : lwS L (p :: ps) = (lwO L p).getD 0 + lwS L ps := by
      unfold lwS
      rw [List.map_cons, List.sum_cons]
    rw [e]
    have one : p.2 ≤ L → (lwO L p).getD 0 = p.1 → ∃ l', Ch true (p :: ps) a l (a + ((lwO L p).getD 0 + lwS L ps)) l' ∧ l' ≤ max l L := fun h1 h2 => by
      obtain ⟨l', h3, h4⟩ := ch_two (a := a + p.1) (l := max l p.2) ht
      refine ⟨l', .inl ?_, by omega⟩
      rw [h2, ← Nat.add_assoc]
      exact h3
    have two : p.1 ≤ L → (lwO L p).getD 0 = p.2 → ∃ l', Ch true (p :: ps) a l (a + ((lwO L p).getD 0 + lwS L ps)) l' ∧ l' ≤ max l L := fun h1 h2 => by
      obtain ⟨l', h3, h4⟩ := ch_two (a := a + p.2) (l := max l p.1) ht
      refine ⟨l', .inr ⟨rfl, ?_⟩, by omega⟩
      rw [h2, ← Nat.add_assoc]
      exact h3
    by_cases c2 : p.2 ≤ L
    · by_cases c1 : p.1 ≤ L
      · by_cases c : p.1 ≤ p.2
        · exact one c2 (by unfold lwO; rw [if_pos c2, if_pos c1]; show min p.1 p.2 = p.1; omega)
        · exact two c1 (by unfold lwO; rw [if_pos c2, if_pos c1]; show min p.1 p.2 = p.2; omega)
      · exact one c2 (by unfold lwO; rw [if_pos c2, if_neg c1] <;> rfl)
    · by_cases c1 : p.1 ≤ L
      · exact two c1 (by unfold lwO; rw [if_neg c2, if_pos c1] <;> rfl)
      · unfold lwO at hp
        rw [if_neg c2, if_neg c1] at hp
        cases hp
structure Best (t : Bool) (ps : List Pc) (w : Nat) (R : Option Nat) : Prop where
  no : R = none → ∀ a' l', a' ≤ w → ¬ Ch t ps 0 0 a' l'
  yes : ∀ m, R = some m → (∃ a', a' ≤ w ∧ Ch t ps 0 0 a' m) ∧ ∀ a' l', a' ≤ w → Ch t ps 0 0 a' l' → m ≤ l'
theorem Best.one {t : Bool} {ps : List Pc} {w : Nat} {R S : Option Nat} (a : Best t ps w R) (b : Best t ps w S) : R = S := by
  cases R with
  | none =>
    cases S with
    | none => rfl
    | some m =>
      obtain ⟨⟨a', h1, h2⟩, _⟩ := b.yes m rfl
      exact absurd h2 (a.no rfl a' m h1)
  | some n =>
    obtain ⟨⟨a', h1, h2⟩, h3⟩ := a.yes n rfl
    cases S with
    | none => exact absurd h2 (b.no rfl a' n h1)
    | some m =>
      obtain ⟨⟨b', h4, h5⟩, h6⟩ := b.yes m rfl
      have := h3 b' m h4 h5
      have := h6 a' n h1 h2
      rw [show n = m by omega]
theorem minDefN_of {fa : En → Option D} {en : En} {ds : List D} {ns : List Int} (h : fa en = some (.lst ds)) (h' : intsOf ds = some ns) : dMinDefN fa en = some (minO ns) := by
  show (fa en).bind _ = _
  rw [h]
  show (intsOf ds).map minO = _
  rw [h'] <;> rfl
theorem least_width_ok (p : Pc) (L : Nat) : F_least_width [prD p, natD L] = some (optN (lwO L p)) := by
  have l : lLc (iAny (dVar 2)) (gSet 3) (tBl (d2 gLe (d2 gIx (dVar 3) (dC (.int 1))) (dVar 1))) (d2 gIx (dVar 3) (dC (.int 0))) [3] [.dat (prD p), .dat (natD L), .dat (.lst [prD p, prD (p.2, p.1)]), .no] = some (([p, (p.2, p.1)].filter fun q => decide (q.2 ≤ L)).map fun q => D.int (q.1 : Int)) :=
    lLc_ft prD (fun q => D.int (q.1 : Int)) (fun q => decide (q.2 ≤ L)) [p, (p.2, p.1)] rfl (by show 2 ≤ 1000; omega) fun q _ => ⟨_, rfl, bl_of (d2_of (x := natD q.2) rfl rfl (le_nat _ _)), rfl⟩
  refine run_rt rfl (seq (set_of rfl) (ret_of ?_))
  refine (minDefN_of (dL_of l) (ints_map (fun q : Pc => (q.1 : Int)) _)).trans ?_
  show some (minO (([p, (p.2, p.1)].filter fun q => decide (q.2 ≤ L)).map fun q : Pc => (q.1 : Int))) = some (optN (lwO L p))
  congr 1
  unfold lwO
  by_cases c2 : p.2 ≤ L
  · rw [List.filter_cons_of_pos (by exact decide_eq_true c2), if_pos c2]
    by_cases c1 : p.1 ≤ L
    · rw [List.filter_cons_of_pos (by exact decide_eq_true c1), if_pos c1]
      show D.int (min (p.1 : Int) (p.2 : Int)) = D.int ((min p.1 p.2 : Nat) : Int)
      congr 1
      omega
    · rw [List.filter_cons_of_neg (by show ¬ decide (p.1 ≤ L) = true; rw [decide_eq_true_eq]; exact c1), if_neg c1] <;> rfl
  · rw [List.filter_cons_of_neg (by show ¬ decide (p.2 ≤ L) = true; rw [decide_eq_true_eq]; exact c2), if_neg c2]
    by_cases c1 : p.1 ≤ L
    · rw [List.filter_cons_of_pos (by exact decide_eq_true c1), if_pos c1] <;> rfl
    · rw [List.filter_cons_of_neg (by show ¬ decide (p.1 ≤ L) = true; rw [decide_eq_true_eq]; exact c1), if_neg c1] <;> rfl
theorem for_findL {fi : En → Option (List D)} {gd : D → En → Option En} {g : En → Option Out} (I : En → Prop) {α : Type} (fd : α → D) (b : α → Bool) (val : α → D) : ∀ (xs : List α)
    (_ : ∀ x ∈ xs, ∀ en, I en → ∃ en1, gd (fd x) en = some en1 ∧ (if b x = true then g en1 = some (.rt (val x)) else ∃ en2, g en1 = some (.nx en2) ∧ I en2)) (en : En), I en → (match xs.find? b with
      | some x => forGo gd g (xs.map fd) en = some (.rt (val x))
      | none => ∃ en', forGo gd g (xs.map fd) en = some (.nx en') ∧ I en')
  | [], _, en, h => ⟨en, rfl, h⟩
  | x :: xs, H, en, h => by
    obtain ⟨en1, h1, h2⟩ := H x List.mem_cons_self en h
    have e : forGo gd g ((x :: xs).map fd) en = (g en1).bind fun
        | .nx en2 => forGo gd g (xs.map fd) en2
        | .ct en2 => forGo gd g (xs.map fd) en2
        | .bk en2 => some (.nx en2)
        | .rt v => some (.rt v)
        | .rm t en2 => some (.rm t en2) := by
      show ((gd (fd x) en).bind _) = _
      rw [h1]
      rfl
    rw [List.find?_cons]
    cases hb : b x with
    | true =>
      rw [hb, if_pos rfl] at h2
      show forGo _ _ _ _ = _
      rw [e, h2] <;> rfl
    | false =>
      rw [hb, if_neg Bool.false_ne_true] at h2
      obtain ⟨en2, h3, h4⟩ := h2
      rw [e, h3]
      exact for_findL (fi := fi) I fd b val xs (fun y hy => H y (List.mem_cons_of_mem _ hy)) en2 h4
theorem and_T {ft fu : En → Option Bool} {en : En} {b : Bool} (h : ft en = some true) (h' : fu en = some b) : tAnd2 ft fu en = some b := by
  show (ft en).bind _ = _
  rw [h]
  exact h'
theorem and_F {ft fu : En → Option Bool} {en : En} (h : ft en = some false) : tAnd2 ft fu en = some false := by
  show (ft en).bind _ = _
  rw [h] <;> rfl
theorem or_T {ft fu : En → Option Bool} {en : En} (h : ft en = some true) : tOr2 ft fu en = some true := by
  show (ft en).bind _ = _
  rw [h] <;> rfl
theorem or_F {ft fu : En → Option Bool} {en : En} {b : Bool} (h : ft en = some false) (h' : fu en = some b) : tOr2 ft fu en = some b := by
  show (ft en).bind _ = _
  rw [h]
  exact h'
theorem max_natD (a b : Nat) : gMax2 [natD a, natD b] = some (natD (max a b)) := by
  show some (D.int (if (b : Int) > (a : Int) then (b : Int) else (a : Int))) = some (D.int ((max a b : Nat) : Int))
  congr 2
  split <;> omega
def leN (a b : Nat) : Bool := decide (a ≤ b)
theorem le_natD (a b : Nat) : leD (natD a) (natD b) = leN a b := by
  show (!PySem.W.dataLt (.int (b : Int)) (.int (a : Int))) = _
  rw [PySem.W.dataLt_int]
  unfold leN
  rw [← decide_not]
  exact decide_eq_decide.mpr (by omega)
theorem srt_natD (xs : List Nat) : (xs.map natD).mergeSort leD = (xs.mergeSort leN).map natD := by
  have e1 := List.map_mergeSort (r := fun a b : Nat => leD (natD a) (natD b)) (s := leD) (f := natD) (l := xs) (fun _ _ _ _ => rfl)
  rw [← e1]
  congr 1
  exact PySem.W.sort_congr fun a _ b _ => le_natD a b
theorem srt_okN (xs : List Nat) : srtOk (xs.map natD) = true := by
  unfold srtOk
  have dp : deepAll 58 (xs.map natD) = true := deepAll_iff.mpr fun d hd => by
    obtain ⟨z, _, rfl⟩ := List.mem_map.mp hd
    exact deep_int
  have sh : (xs.map natD).all shpO = true := List.all_eq_true.mpr fun d hd => by
    obtain ⟨z, _, rfl⟩ := List.mem_map.mp hd
    rfl
  have al : ((xs.map natD).all fun d => (xs.map natD).all fun e => PySem.W.alike (py d) (py e)) = true := List.all_eq_true.mpr fun d hd => List.all_eq_true.mpr fun e he => by
    obtain ⟨z, _, rfl⟩ := List.mem_map.mp hd
    obtain ⟨y, _, rfl⟩ := List.mem_map.mp he
    simp [natD, py, PySem.W.alike]
  rw [dp, sh, al, Bool.or_true] <;> rfl
theorem lsrt_ofN {f : En → Option D} {en : En} {xs : List Nat} (h : f en = some (.lst (xs.map natD))) : lSrt f en = some ((xs.mergeSort leN).map natD) := by
  show (f en).bind _ = _
  rw [h]
  show (if srtOk (xs.map natD) = true then some ((xs.map natD).mergeSort leD) else none) = _
  rw [if_pos (srt_okN xs), srt_natD]
theorem find_least {xs : List Nat} {b : Nat → Bool} {m x : Nat} (h : (xs.mergeSort leN).find? b = some m) (hx : x ∈ xs) (hb : b x = true) : m ≤ x := by
  have pw := List.pairwise_mergeSort (le := leN) (fun a b c h1 h2 => by unfold leN at *; rw [decide_eq_true_eq] at *; omega) (fun a b => by unfold leN; rw [Bool.or_eq_true, decide_eq_true_eq, decide_eq_true_eq]; omega) xs
  obtain ⟨_, as, bs, e, ha⟩ := List.find?_eq_some_iff_append.mp h
  have hx' : x ∈ xs.mergeSort leN := List.mem_mergeSort.mpr hx
  rw [e] at hx' pw
  rcases List.mem_append.mp hx' with z | z
  · have := ha x z
    rw [hb] at this
    cases this
  · rcases List.mem_cons.mp z with z | z
    · omega
    · have := (List.pairwise_cons.mp (List.pairwise_append.mp pw).2.1).1 x z
      unfold leN at this
      rw [decide_eq_true_eq] at this
      exact this
def lsD (ps : List Pc) : D := .lst (ps.map prD)
def sidesC (ps : List Pc) : List Nat := 0 :: ps.flatMap fun p => [p.1, p.2]
def feas (ps : List Pc) (w L : Nat) : Bool := (ps.all fun p => (lwO L p).isSome) && decide (lwS L ps ≤ w)
theorem flat_lenP (ps : List Pc) : (ps.flatMap fun p => [p.1, p.2]).length = 2 * ps.length := by
  induction ps with
  | nil => rfl
  | cons p ps ih =>
    have e : (p :: ps).length = ps.length + 1 := rfl
    rw [List.flatMap_cons, List.length_append, ih, e]
    show 2 + _ = _
    omega
theorem notin_ok (ps : List Pc) (L : Nat) : gNotInL .non (.lst (ps.map fun p => optN (lwO L p))) = some (.bl (ps.all fun p => (lwO L p).isSome)) := by
  have dn : deep 58 .non = true := by decide +kernel
  have da : deepAll 58 (ps.map fun p => optN (lwO L p)) = true := deepAll_iff.mpr fun d hd => by
    obtain ⟨p, _, rfl⟩ := List.mem_map.mp hd
    cases lwO L p with
    | none => exact dn
    | some n => exact deep_int
  show (if deep 58 .non = true ∧ deepAll 58 (ps.map fun p => optN (lwO L p)) = true then some (D.bl (!(pyAll (ps.map fun p => optN (lwO L p))).any fun z => PyData.eqv z (py .non))) else none) = _
  rw [if_pos ⟨dn, da⟩, C.pyAll_map (fun p => optN (lwO L p)) ps, List.any_map, List.not_any_eq_all_not]
  congr 3
  funext p
  show (!PyData.eqv (py (optN (lwO L p))) (py .non)) = _
  cases lwO L p <;> rfl
theorem sum_lw {ps : List Pc} {L : Nat} (h : (ps.all fun p => (lwO L p).isSome) = true) : gSum [.lst (ps.map fun p => optN (lwO L p))] = some (natD (lwS L ps)) := by
  have e : (ps.map fun p => optN (lwO L p)) = ps.map fun p => D.int (((lwO L p).getD 0 : Nat) : Int) := List.map_congr_left fun p hp => by
    have := List.all_eq_true.mp h p hp
    cases q : lwO L p with
    | none => rw [q] at this; cases this
    | some n => rfl
  show (intsOf _).map _ = _
  rw [e, ints_map (fun p : Pc => (((lwO L p).getD 0 : Nat) : Int))]
  show some (D.int _) = some (D.int _)
  unfold lwS
  rw [← sum_cast, List.map_map] <;> rfl
theorem turned_length_ok {ps : List Pc} {w : Nat} (hl : ps.length ≤ 100) : F_turned_length [lsD ps, natD w] = some (optN (((sidesC ps).mergeSort leN).find? (feas ps w))) := by
  let E : Sl → Sl → En := fun s2 s3 => [.dat (lsD ps), .dat (natD w), s2, s3, .no, .no]
  have l2 : lLc2 (iAny (dVar 0)) (gSet 4) fYes (iAny (dVar 4)) (gSet 5) fYes (dVar 5) [4, 5] [5] (E .no .no) = some ((ps.flatMap fun p => [p.1, p.2]).map natD) := by
    have g := lc2_gen (en := E .no .no) (gd := gSet 4) (fi1 := iAny (dVar 4)) (gd1 := gSet 5) (fe := dVar 5) (vs1 := [5]) prD (fun p : Pc => [p.1, p.2]) (fun _ y => natD y) (fun _ y => natD y) ps (fun p _ => ⟨[.dat (lsD ps), .dat (natD w), .no, .no, .dat (prD p), .no], rfl, rfl, rfl, fun y _ => ⟨_, rfl, rfl⟩⟩)
    rw [← List.map_flatMap] at g
    unfold lLc2
    show ((lc2Go _ _ _ _ _ _ _ (E .no .no) (ps.map prD)).bind _) = _
    rw [g]
    show (if ((ps.flatMap fun p => [p.1, p.2]).map natD).length ≤ lim then _ else none) = _
    have hlim : (1000 : Nat) ≤ lim := by decide
    rw [if_pos (by rw [List.length_map, flat_lenP]; omega)]
  have it : iAny (dL (lSrt (dL (lCat (lLst (aCons (dC (.int 0)) aNil)) (lLc2 (iAny (dVar 0)) (gSet 4) fYes (iAny (dVar 4)) (gSet 5) fYes (dVar 5) [4, 5] [5]))))) (E .no .no) = some (((sidesC ps).mergeSort leN).map natD) :=
    any_lst (dL_of (lsrt_ofN (dL_of (lCat_some (xs := [natD 0]) rfl l2 (by rw [List.length_map, flat_lenP]; show 1 + _ ≤ 1000; omega)))))
  have r := for_findL (fi := iAny (dVar 0)) (gd := gSet 2) (g := sSeq (sSet 3 (dL (lLc (iAny (dVar 0)) (gSet 4) fYes (dCall F_least_width (aCons (dVar 4) (aCons (dVar 2) aNil))) [4])))
 (sIf (tAnd2 (tBl (d2 gNotInL (dC .non) (dVar 3))) (tBl (d2 gLe (dCB gSum (aCons (dVar 3) aNil)) (dVar 1)))) (sRet (dVar 2)) sNil)) (fun en => ∃ s2 s3, en = E s2 s3) natD (feas ps w) natD ((sidesC ps).mergeSort leN) (fun L hL en hI => by
      obtain ⟨s2, s3, rfl⟩ := hI
      refine ⟨E (.dat (natD L)) s3, rfl, ?_⟩
      have g3 : sSet 3 (dL (lLc (iAny (dVar 0)) (gSet 4) fYes (dCall F_least_width (aCons (dVar 4) (aCons (dVar 2) aNil))) [4])) (E (.dat (natD L)) s3) = some (.nx (E (.dat (natD L)) (.dat (.lst (ps.map fun p => optN (lwO L p)))))) :=
        set_of (dL_of (lc_all ps prD (fun p => optN (lwO L p)) rfl (by omega) fun p _ => ⟨_, rfl, call_of (a_two rfl rfl) (least_width_ok p L)⟩))
      have t1 : tBl (d2 gNotInL (dC .non) (dVar 3)) (E (.dat (natD L)) (.dat (.lst (ps.map fun p => optN (lwO L p))))) = some (ps.all fun p => (lwO L p).isSome) := bl_of (d2_of rfl rfl (notin_ok ps L))
      unfold feas
      cases c : ps.all fun p => (lwO L p).isSome with
      | false =>
        rw [c] at t1
        rw [Bool.false_and, if_neg Bool.false_ne_true]
        exact ⟨_, seq g3 (sifF (and_F t1) rfl), _, _, rfl⟩
      | true =>
        rw [c] at t1
        rw [Bool.true_and]
        have t2 : tAnd2 (tBl (d2 gNotInL (dC .non) (dVar 3))) (tBl (d2 gLe (dCB gSum (aCons (dVar 3) aNil)) (dVar 1))) (E (.dat (natD L)) (.dat (.lst (ps.map fun p => optN (lwO L p))))) = some (decide (lwS L ps ≤ w)) := and_T t1 (bl_of (d2_of (cb_of (a_one rfl) (sum_lw c)) rfl (le_nat (lwS L ps) w)))
        by_cases c2 : lwS L ps ≤ w
        · rw [decide_eq_true c2] at t2
          rw [decide_eq_true c2, if_pos rfl]
          exact seq g3 (sifT t2 rfl)
        · rw [decide_eq_false c2] at t2
          rw [decide_eq_false c2, if_neg Bool.false_ne_true]
          exact ⟨_, seq g3 (sifF t2 rfl), _, _, rfl⟩) (E .no .no) ⟨_, _, rfl⟩
  cases e : ((sidesC ps).mergeSort leN).find? (feas ps w) with
  | some m =>
    rw [e] at r
    refine run_rt rfl (seqR ?_)
    show (iAny _ (E .no .no)).bind _ = _
    rw [it]
    exact r
  | none =>
    rw [e] at r
    obtain ⟨en', r, s2, s3, rfl⟩ := r
    refine run_rt rfl (seq (en' := E s2 s3) ?_ rfl)
    show (iAny _ (E .no .no)).bind _ = _
    rw [it]
    exact r
theorem turned_best {ps : List Pc} {w : Nat} : Best true ps w (((sidesC ps).mergeSort leN).find? (feas ps w)) := by
  have mem : ∀ {a' l'}, a' ≤ w → Ch true ps 0 0 a' l' → l' ∈ sidesC ps ∧ feas ps w l' = true := fun {a' l'} ha h => by
    refine ⟨?_, ?_⟩
    · rcases ch_side h with e | ⟨p, hp, e⟩
      · rw [e]; exact List.mem_cons_self
      · refine List.mem_cons_of_mem _ (List.mem_flatMap.mpr ⟨p, hp, ?_⟩)
        rcases e with e | e
        · rw [e]; exact List.mem_cons_self
        · rw [e]; exact List.mem_cons_of_mem _ List.mem_cons_self
    · obtain ⟨h1, h2⟩ := ch_one h (Nat.le_refl _)
      unfold feas
      rw [Bool.and_eq_true, List.all_eq_true, decide_eq_true_eq]
      exact ⟨h1, by omega⟩
  refine ⟨fun hn a' l' ha h => ?_, fun m hm => ?_⟩
  · obtain ⟨h1, h2⟩ := mem ha h
    have := List.find?_eq_none.mp hn l' (List.mem_mergeSort.mpr h1)
    exact this h2
  · have le : ∀ a' l', a' ≤ w → Ch true ps 0 0 a' l' → m ≤ l' := fun a' l' ha h => by
      obtain ⟨h1, h2⟩ := mem ha h
      exact find_least hm h1 h2
    have fm := List.find?_some hm
    unfold feas at fm
    rw [Bool.and_eq_true, List.all_eq_true, decide_eq_true_eq] at fm
    obtain ⟨l', h1, h2⟩ := ch_two (a := 0) (l := 0) fm.1
    rw [Nat.zero_add] at h1
    have := le _ l' fm.2 h1
    have e : l' = m := by omega
    rw [e] at h1
    exact ⟨⟨_, fm.2, h1⟩, le⟩
def sw (ps : List Pc) : Nat := (ps.map (·.1)).sum
def mx : List Pc → Nat → Nat
  | [], l => l
  | p :: ps, l => mx ps (max l p.2)
theorem ch_false : ∀ {ps : List Pc} {a l a' l' : Nat}, Ch false ps a l a' l' ↔ a' = a + sw ps ∧ l' = mx ps l
  | [], a, l, a', l' => by
    show a = a' ∧ l = l' ↔ a' = a + 0 ∧ l' = l
    omega
  | p :: ps, a, l, a', l' => by
    show Ch false ps (a + p.1) (max l p.2) a' l' ∨ (false = true ∧ _) ↔ a' = a + (p.1 + sw ps) ∧ l' = mx ps (max l p.2)
    rw [ch_false]
    constructor
    · rintro (⟨h1, h2⟩ | ⟨h, _⟩)
      · exact ⟨by omega, h2⟩
      · cases h
    · rintro ⟨h1, h2⟩
      exact .inl ⟨by omega, h2⟩
theorem mx_ge : ∀ (ps : List Pc) (l : Nat), l ≤ mx ps l ∧ ∀ p ∈ ps, p.2 ≤ mx ps l
  | [], l => ⟨Nat.le_refl _, fun p hp => nomatch hp⟩
  | p :: ps, l => by
    obtain ⟨h1, h2⟩ := mx_ge ps (max l p.2)
    refine ⟨by show l ≤ mx ps (max l p.2); omega, fun q hq => ?_⟩
    rcases List.mem_cons.mp hq with rfl | hq
    · show q.2 ≤ mx ps (max l q.2)
      omega
    · exact h2 q hq
theorem mx_at : ∀ (ps : List Pc) (l : Nat), mx ps l = l ∨ ∃ p ∈ ps, p.2 = mx ps l
  | [], l => .inl rfl
  | p :: ps, l => by
    show mx ps (max l p.2) = l ∨ ∃ q ∈ p :: ps, q.2 = mx ps (max l p.2)
    rcases mx_at ps (max l p.2) with e | ⟨q, hq, e⟩
    · by_cases c : p.2 ≤ l
      · exact .inl (by omega)
      · exact .inr ⟨p, List.mem_cons_self, by omega⟩
    · exact .inr ⟨q, List.mem_cons_of_mem _ hq, e⟩
def laidOf (ps : List Pc) (row : List Nat) : List Pc := row.map fun k => ps.getD k (0, 0)
theorem laid_ok {ps : List Pc} {row : List Nat} {i j : Nat} {en : En} {gd : D → En → Option En} {fe : En → Option D} {vs : List Nat} {fi : En → Option (List D)} (hr : ∀ k ∈ row, k < ps.length) (hl : row.length ≤ 100) (hi : fi en = some (row.map natD)) (H : ∀ k ∈ row, ∃ en1, gd (natD k) (wipeE en vs) = some en1 ∧ fe en1 = gIx (lsD ps) (natD k)) : dL (lLc fi gd fYes fe vs) en = some (lsD (laidOf ps row)) := by
  refine (dL_of (lc_all row natD (fun k => prD (ps.getD k (0, 0))) hi (by omega) fun k hk => ?_)).trans ?_
  · obtain ⟨en1, h1, h2⟩ := H k hk
    exact ⟨en1, h1, h2.trans (at_natL prD ps (0, 0) (hr k hk))⟩
  · unfold lsD laidOf
    rw [List.map_map] <;> rfl
theorem row_length_ok {ps : List Pc} {row : List Nat} {w : Nat} {t : Bool} (hr : ∀ k ∈ row, k < ps.length) (hl : row.length ≤ 100) : ∃ R, F_row_length [lsD ps, .tup (row.map natD), natD w, .bl t] = some (optN R) ∧ Best t (laidOf ps row) w R := by
  have ll : (laidOf ps row).length = row.length := List.length_map _
  let E : Sl → En := fun s4 => [.dat (lsD ps), .dat (.tup (row.map natD)), .dat (natD w), .dat (.bl t), s4, .no, .no]
  have g4 : sSet 4 (dL (lLc (iAny (dVar 1)) (gSet 5) fYes (d2 gIx (dVar 0) (dVar 5)) [5])) (E .no) = some (.nx (E (.dat (lsD (laidOf ps row))))) := set_of (laid_ok (i := 0) (j := 0) hr hl rfl fun k _ => ⟨_, rfl, rfl⟩)
  cases t with
  | true => exact ⟨_, run_rt rfl (seq g4 (seqR (sifT rfl (ret_of (call_of (a_two rfl rfl) (turned_length_ok (by omega))))))), turned_best⟩
  | false =>
    let L := laidOf ps row
    have lL : L.length ≤ 1000 := by show (laidOf ps row).length ≤ 1000; omega
    have l1 : lLc (iAny (dVar 4)) (gSet 6) fYes (d2 gIx (dVar 6) (dC (.int 0))) [6] (E (.dat (lsD L))) = some (L.map fun p => D.int (p.1 : Int)) := lc_all L prD (fun p => D.int (p.1 : Int)) rfl lL fun p _ => ⟨_, rfl, rfl⟩
    have l2 : lLc (iAny (dVar 4)) (gSet 6) fYes (d2 gIx (dVar 6) (dC (.int 1))) [6] (E (.dat (lsD L))) = some (L.map fun p => D.int (p.2 : Int)) := lc_all L prD (fun p => D.int (p.2 : Int)) rfl lL fun p _ => ⟨_, rfl, rfl⟩
    have sm : gSum [.lst (L.map fun p => D.int (p.1 : Int))] = some (natD (sw L)) := by
      show (intsOf _).map _ = _
      rw [ints_map (fun p : Pc => (p.1 : Int))]
      show some (D.int _) = some (D.int _)
      unfold sw
      rw [← sum_cast, List.map_map] <;> rfl
    have t1 : tBl (d2 gGt (dCB gSum (aCons (dL (lLc (iAny (dVar 4)) (gSet 6) fYes (d2 gIx (dVar 6) (dC (.int 0))) [6])) aNil)) (dVar 2)) (E (.dat (lsD L))) = some (decide (w < sw L)) := bl_of (d2_of (cb_of (a_one (dL_of l1)) sm) rfl (gt_nat _ _))
    by_cases c : w < sw L
    · rw [decide_eq_true c] at t1
      refine ⟨none, run_rt rfl (seq g4 (seq (sifF rfl rfl) (seqR (sifT t1 rfl)))), ⟨fun _ a' l' ha h => ?_, fun m hm => nomatch hm⟩⟩
      have := (ch_false.mp h).1
      have : a' = 0 + sw L := this
      omega
    · rw [decide_eq_false c] at t1
      obtain ⟨q1, q2⟩ := mx_ge L 0
      have md : dMaxDef 0 (dL (lLc (iAny (dVar 4)) (gSet 6) fYes (d2 gIx (dVar 6) (dC (.int 1))) [6])) (E (.dat (lsD L))) = some (natD (mx L 0)) := by
        by_cases hL : L = []
        · have e := dL_of l2
          rw [hL] at e ⊢
          show (dL _ _).bind _ = _
          rw [e] <;> rfl
        · have at_ : ∃ p ∈ L, (p.2 : Int) = (mx L 0 : Int) := by
            rcases mx_at L 0 with e | ⟨p, hp, e⟩
            · obtain ⟨p, hp⟩ := List.exists_mem_of_ne_nil L hL
              have := q2 p hp
              exact ⟨p, hp, by omega⟩
            · exact ⟨p, hp, by omega⟩
          exact maxDef_of (h := fun p : Pc => (p.2 : Int)) (dL_of l2) at_ fun p hp => by have := q2 p hp; omega
      refine ⟨some (mx L 0), run_rt rfl (seq g4 (seq (sifF rfl rfl) (seq (sifF t1 rfl) (ret_of md)))), ⟨(fun h => nomatch h), fun m hm => ?_⟩⟩
      cases hm
      refine ⟨⟨sw L, by omega, ch_false.mpr ⟨(Nat.zero_add _).symm, rfl⟩⟩, fun a' l' _ h => ?_⟩
      have := (ch_false.mp h).2
      have : l' = mx L 0 := this
      omega
end C

namespace G
open PySem PySem.Spec PyProof.Rows L2 DD C
def topS (i : Nat) : Stmt := PySem.Challenge.pw_sewnwhole_k61_cuttings_of_anybody.main.body.getD i (.Pass ⟨0, 0, 0, 0⟩)
abbrev s_least_width : Stmt := topS 1
abbrev N_least_width : List Str := ["piece", "length", "ways", "way"]
theorem sc_least_width : FnScope N_least_width ["piece", "length"] (defScope s_least_width) := ⟨rfl, rfl, rfl, by decide +kernel, rfl, by decide +kernel, by decide +kernel⟩
abbrev s_turned_length : Stmt := topS 2
abbrev N_turned_length : List Str := ["laid", "width", "length", "widths", "piece", "side"]
theorem sc_turned_length : FnScope N_turned_length ["laid", "width"] (defScope s_turned_length) := ⟨rfl, rfl, rfl, by decide +kernel, rfl, by decide +kernel, by decide +kernel⟩
abbrev s_row_length : Stmt := topS 3
abbrev N_row_length : List Str := ["pieces", "row", "width", "turned", "laid", "number", "piece"]
theorem sc_row_length : FnScope N_row_length ["pieces", "row", "width", "turned"] (defScope s_row_length) := ⟨rfl, rfl, rfl, by decide +kernel, rfl, by decide +kernel, by decide +kernel⟩
abbrev s_row_flaw : Stmt := topS 4
abbrev N_row_flaw : List Str := ["pieces", "width", "cutting", "place", "turned", "row", "earlier", "other", "number", "one"]
theorem sc_row_flaw : FnScope N_row_flaw ["pieces", "width", "cutting", "place", "turned"] (defScope s_row_flaw) := ⟨rfl, rfl, rfl, by decide +kernel, rfl, by decide +kernel, by decide +kernel⟩
abbrev s_flaw_of_cutting : Stmt := topS 5
abbrev N_flaw_of_cutting : List Str := ["pieces", "width", "cutting", "turned", "place", "what", "row"]
theorem sc_flaw_of_cutting : FnScope N_flaw_of_cutting ["pieces", "width", "cutting", "turned"] (defScope s_flaw_of_cutting) := ⟨rfl, rfl, rfl, by decide +kernel, rfl, by decide +kernel, by decide +kernel⟩
abbrev s__law_cell : Stmt := topS 7
abbrev N__law_cell : List Str := ["script", "k"]
theorem sc__law_cell : FnScope N__law_cell ["script", "k"] (defScope s__law_cell) := ⟨rfl, rfl, rfl, by decide +kernel, rfl, by decide +kernel, by decide +kernel⟩
abbrev s__law_draw : Stmt := topS 8
abbrev N__law_draw : List Str := ["script", "k", "sizes", "cell", "drawn", "mixed", "j", "size"]
theorem sc__law_draw : FnScope N__law_draw ["script", "k", "sizes"] (defScope s__law_draw) := ⟨rfl, rfl, rfl, by decide +kernel, rfl, by decide +kernel, by decide +kernel⟩
abbrev s__law_row : Stmt := topS 9
abbrev N__law_row : List Str := ["pieces", "row", "width", "turned", "best", "laid", "k", "more", "across", "longest", "one"]
theorem sc__law_row : FnScope N__law_row ["pieces", "row", "width", "turned"] (defScope s__law_row) := ⟨rfl, rfl, rfl, by decide +kernel, rfl, by decide +kernel, by decide +kernel⟩
abbrev s__law_pieces : Stmt := topS 10
abbrev N__law_pieces : List Str := ["script", "at", "many", "head", "pieces", "k", "width", "digits", "wide", "long"]
theorem sc__law_pieces : FnScope N__law_pieces ["script", "at", "many"] (defScope s__law_pieces) := ⟨rfl, rfl, rfl, by decide +kernel, rfl, by decide +kernel, by decide +kernel⟩
abbrev s__law_flaw : Stmt := topS 11
abbrev N__law_flaw : List Str := ["pieces", "width", "cutting", "turned", "seen", "k", "row", "j", "one"]
theorem sc__law_flaw : FnScope N__law_flaw ["pieces", "width", "cutting", "turned"] (defScope s__law_flaw) := ⟨rfl, rfl, rfl, by decide +kernel, rfl, by decide +kernel, by decide +kernel⟩
abbrev s_law : Stmt := topS 12
abbrev N_law : List Str := ["script", "w", "many", "digits", "rows", "k", "change", "cutting", "turned", "pieces", "width", "row"]
theorem sc_law : FnScope N_law ["script"] (defScope s_law) := ⟨rfl, rfl, rfl, by decide +kernel, rfl, by decide +kernel, by decide +kernel⟩
def g_row_flaw : En → Option Out := (sSeq (sAsgG (dTup (aCons (d2 gIx (dVar 2) (dVar 3)) (aCons (dCutA (dVar 2) oNo (oInt (dVar 3))) aNil))) (gTupD (gsCons (gSet 5) (gsCons (gSet 6) gsNil)) 2))
 (sSeq (sIf (tNot1 (tTr (dVar 5))) (sRet (dC (.str "empty row"))) sNil)
 (sSeq (sIf (tBl (dCB gAny (aCons (dL (lLc (iZip2 (aCons (dVar 5) (aCons (dCutA (dVar 5) (oInt (dC (.int 1))) oNo) aNil))) (gTupD (gsCons (gSet 9) (gsCons (gSet 7) gsNil)) 2) fYes (d2 gGe (dVar 9) (dVar 7)) [9, 7])) aNil))) (sRet (dC (.str "not ascending"))) sNil)
 (sSeq (sIf (tOr2 (tBl (d2 gLt (d2 gIx (dVar 5) (dC (.int 0))) (dC (.int 0)))) (tBl (d2 gGe (d2 gIx (dVar 5) (d1 gNeg (dC (.int 1)))) (dCB gLen (aCons (dVar 0) aNil))))) (sRet (dC (.str "no such piece"))) sNil)
 (sSeq (sIf (tBl (dCB gAny (aCons (dL (lLc2 (iAny (dVar 6)) (gSet 7) fYes (iAny (dVar 5)) (gSet 8) fYes (d2 gInA (dVar 8) (dVar 7)) [7, 8] [8])) aNil))) (sRet (dC (.str "laid twice"))) sNil)
 (sSeq (sIf (tAnd2 (tTr (dVar 6)) (tBl (d2 gLt (d2 gIx (dVar 5) (dC (.int 0))) (d2 gIx (d2 gIx (dVar 6) (d1 gNeg (dC (.int 1)))) (dC (.int 0)))))) (sRet (dC (.str "rows out of order"))) sNil)
 (sSeq (sIf (tBl (d2 gIsN (dCall F_row_length (aSnoc 3 (aCons (dVar 0) (aCons (dVar 5) (aCons (dVar 1) aNil))) (dVar 4))) (dC .non))) (sRet (dC (.str "does not fit"))) sNil)
 (sRet (dC .non)))))))))
def F_row_flaw : List D → Option D := runD g_row_flaw 10 5
def g_flaw_of_cutting : En → Option Out := (sSeq (sFor (iR1 (aCons (dCB gLen (aCons (dVar 2) aNil)) aNil)) (gSet 4) (sSeq (sSet 5 (dCall F_row_flaw (aCons (dVar 0) (aCons (dVar 1) (aCons (dVar 2) (aCons (dVar 4) (aCons (dVar 3) aNil)))))))
 (sIf (tBl (d2 gNotN (dVar 5) (dC .non))) (sRet (dTup (aCons (dVar 4) (aCons (dVar 5) aNil)))) sNil)))
 (sSeq (sIf (tBl (d2 gLt (dCB gSum (aCons (dL (lLc (iAny (dVar 2)) (gSet 6) fYes (dCB gLen (aCons (dVar 6) aNil)) [6])) aNil)) (dCB gLen (aCons (dVar 0) aNil)))) (sRet (dTup (aCons (dCB gLen (aCons (dVar 2) aNil)) (aCons (dC (.str "piece left out")) aNil)))) sNil)
 (sRet (dC .non))))
def F_flaw_of_cutting : List D → Option D := runD g_flaw_of_cutting 7 4
def g__law_row : En → Option Out := (sSeq (sSet 4 (dC .non))
 (sSeq (sSet 5 (dL (lLst (aCons (dTup (aCons (dC (.int 0)) (aCons (dC (.int 0)) aNil))) aNil))))
 (sSeq (sFor (iAny (dVar 1)) (gSet 6) (sSeq (sOwn 7 (lLst aNil))
 (sSeq (sFor (iAny (dVar 5)) (gTupD (gsCons (gSet 8) (gsCons (gSet 9) gsNil)) 2) (sSeq (sApp 7 (dTup (aCons (d2 gAdd (dVar 8) (d2 gIx (d2 gIx (dVar 0) (dVar 6)) (dC (.int 0)))) (aCons (dCB gMax2 (aCons (dVar 9) (aCons (d2 gIx (d2 gIx (dVar 0) (dVar 6)) (dC (.int 1))) aNil))) aNil))))
 (sIf (tBl (dVar 3)) (sApp 7 (dTup (aCons (d2 gAdd (dVar 8) (d2 gIx (d2 gIx (dVar 0) (dVar 6)) (dC (.int 1)))) (aCons (dCB gMax2 (aCons (dVar 9) (aCons (d2 gIx (d2 gIx (dVar 0) (dVar 6)) (dC (.int 0))) aNil))) aNil)))) sNil)))
 (fun en => (sSet 5 (dL (lLc (iAny (dVar 7)) (gSet 10) (tBl (d2 gLe (d2 gIx (dVar 10) (dC (.int 0))) (dVar 2))) (dVar 10) [10]))) (frz 7 en)))))
 (sSeq (sFor (iAny (dVar 5)) (gTupD (gsCons (gSet 8) (gsCons (gSet 9) gsNil)) 2) (sIf (tOr2 (tBl (d2 gIsN (dVar 4) (dC .non))) (tBl (d2 gLt (dVar 9) (dVar 4)))) (sSet 4 (dVar 9)) sNil))
 (sRet (dVar 4))))))
def F__law_row : List D → Option D := runD g__law_row 11 4
def g__law_pieces : En → Option Out := (sSeq (sSet 3 (dCall F__law_draw (aCons (dVar 0) (aCons (dVar 1) (aCons (dL (lLst (aCons (dC (.int 4)) (aCons (dC (.int 40)) aNil)))) aNil)))))
 (sSeq (sOwn 4 (lLst aNil))
 (sSeq (sFor (iR1 (aCons (dVar 2) aNil)) (gSet 5) (sSeq (sSet 7 (dCall F__law_draw (aCons (dVar 0) (aCons (d2 gAdd (d2 gAdd (dVar 1) (dC (.int 1))) (d2 gMod (dVar 5) (dC (.int 5)))) (aCons (dL (lLst (aCons (dC (.int 12)) (aCons (dC (.int 12)) (aCons (dC (.int 1000)) (aCons (dC (.int 1000)) aNil)))))) aNil)))))
 (sSeq (sSet 8 (d2 gAdd (dC (.int 1)) (d2 gMod (d2 gAdd (d2 gIx (dVar 7) (dC (.int 0))) (dVar 5)) (dC (.int 12)))))
 (sSeq (sSet 9 (d2 gAdd (dC (.int 1)) (d2 gMod (d2 gAdd (d2 gIx (dVar 7) (dC (.int 1))) (d2 gMulI (dC (.int 2)) (dVar 5))) (dC (.int 12)))))
 (sSeq (sIf (tBl (d2 gEq (d2 gIx (dVar 3) (dC (.int 0))) (dC (.int 0)))) (sSeq (sSet 8 (d2 gAdd (dC (.int 1)) (d2 gMod (d2 gAdd (d2 gIx (dVar 7) (dC (.int 2))) (d2 gMulI (dC (.int 77)) (dVar 5))) (dC (.int 1000)))))
 (sSet 9 (d2 gAdd (dC (.int 1)) (d2 gMod (d2 gAdd (d2 gIx (dVar 7) (dC (.int 3))) (d2 gMulI (dC (.int 31)) (dVar 5))) (dC (.int 1000)))))) sNil)
 (sApp 4 (dTup (aCons (dVar 8) (aCons (dVar 9) aNil)))))))))
 (sSeq (sSet 6 (d2 gAdd (dC (.int 12)) (d2 gIx (dVar 3) (dC (.int 1)))))
 (sSeq (sIf (tBl (d2 gEq (d2 gIx (dVar 3) (dC (.int 0))) (dC (.int 0)))) (sSet 6 (d2 gAdd (dC (.int 1000)) (d2 gMulI (dC (.int 25)) (d2 gIx (dVar 3) (dC (.int 1)))))) sNil)
 (sSeq (sIf (tBl (d2 gEq (d2 gIx (dVar 3) (dC (.int 0))) (dC (.int 1)))) (sSet 6 (d2 gAdd (dC (.int 4)) (d2 gMod (d2 gIx (dVar 3) (dC (.int 1))) (dC (.int 12))))) sNil)
 (fun en => (sRet (dTup (aCons (dVar 4) (aCons (dVar 6) aNil)))) (frz 4 en))))))))
def F__law_pieces : List D → Option D := runD g__law_pieces 10 3
def g__law_flaw : En → Option Out := (sSeq (sSet 4 (dL (lLst aNil)))
 (sSeq (sFor (iR1 (aCons (dCB gLen (aCons (dVar 2) aNil)) aNil)) (gSet 5) (sSeq (sSet 6 (dL (lListOf (d2 gIx (dVar 2) (dVar 5)))))
 (sSeq (sIf (tBl (d2 gEq (dCB gLen (aCons (dVar 6) aNil)) (dC (.int 0)))) (sRet (dTup (aCons (dVar 5) (aCons (dC (.str "empty row")) aNil)))) sNil)
 (sSeq (sFor (iR2 (aCons (dC (.int 1)) (aCons (dCB gLen (aCons (dVar 6) aNil)) aNil))) (gSet 7) (sIf (tBl (d2 gLe (d2 gIx (dVar 6) (dVar 7)) (d2 gIx (dVar 6) (d2 gSub (dVar 7) (dC (.int 1)))))) (sRet (dTup (aCons (dVar 5) (aCons (dC (.str "not ascending")) aNil)))) sNil))
 (sSeq (sIf (tOr2 (tBl (d2 gLt (d2 gIx (dVar 6) (dC (.int 0))) (dC (.int 0)))) (tBl (d2 gGe (d2 gIx (dVar 6) (d1 gNeg (dC (.int 1)))) (dCB gLen (aCons (dVar 0) aNil))))) (sRet (dTup (aCons (dVar 5) (aCons (dC (.str "no such piece")) aNil)))) sNil)
 (sSeq (sIf (tBl (dCB gAny (aCons (dL (lLc (iAny (dVar 6)) (gSet 8) fYes (d2 gInL (dVar 8) (dVar 4)) [8])) aNil))) (sRet (dTup (aCons (dVar 5) (aCons (dC (.str "laid twice")) aNil)))) sNil)
 (sSeq (sIf (tAnd2 (tBl (d2 gGt (dVar 5) (dC (.int 0)))) (tBl (d2 gLt (d2 gIx (dVar 6) (dC (.int 0))) (d2 gIx (d2 gIx (dVar 2) (d2 gSub (dVar 5) (dC (.int 1)))) (dC (.int 0)))))) (sRet (dTup (aCons (dVar 5) (aCons (dC (.str "rows out of order")) aNil)))) sNil)
 (sSeq (sIf (tBl (d2 gIsN (dCall F__law_row (aCons (dVar 0) (aCons (dVar 6) (aCons (dVar 1) (aCons (dVar 3) aNil))))) (dC .non))) (sRet (dTup (aCons (dVar 5) (aCons (dC (.str "does not fit")) aNil)))) sNil)
 (sSet 4 (d2 gAddB (dVar 4) (dVar 6)))))))))))
 (sSeq (sIf (tBl (d2 gLt (dCB gLen (aCons (dVar 4) aNil)) (dCB gLen (aCons (dVar 0) aNil)))) (sRet (dTup (aCons (dCB gLen (aCons (dVar 2) aNil)) (aCons (dC (.str "piece left out")) aNil)))) sNil)
 (sRet (dC .non)))))
def F__law_flaw : List D → Option D := runD g__law_flaw 9 4
def g_law : En → Option Out := (sSeq (sFor (iR1 (aCons (dCB gMin2 (aCons (dC (.int 4)) (aCons (d2 gAdd (dC (.int 1)) (d2 gFdiv (dCB gLen (aCons (dVar 0) aNil)) (dC (.int 9)))) aNil))) aNil)) (gSet 1) (sSeq (sSet 2 (d2 gIx (dCall F__law_draw (aCons (dVar 0) (aCons (d2 gAdd (d2 gMulI (dC (.int 9)) (dVar 1)) (dC (.int 6))) (aCons (dL (lLst (aCons (dC (.int 6)) aNil))) aNil)))) (dC (.int 0))))
 (sSeq (sAsgG (dCall F__law_pieces (aCons (dVar 0) (aCons (d2 gMulI (dC (.int 9)) (dVar 1)) (aCons (dVar 2) aNil)))) (gTupD (gsCons (gSet 9) (gsCons (gSet 10) gsNil)) 2))
 (sSeq (sSet 3 (dCall F__law_draw (aCons (dVar 0) (aCons (d2 gAdd (d2 gMulI (dC (.int 9)) (dVar 1)) (dC (.int 7))) (aCons (dL (lLst (aCons (dC (.int 3)) (aCons (dC (.int 3)) (aCons (dC (.int 3)) (aCons (dC (.int 3)) (aCons (dC (.int 3)) aNil))))))) aNil)))))
 (sSeq (sTreE 4 (trLst (trCons (trLst trNil) (trCons (trLst trNil) (trCons (trLst trNil) trNil)))))
 (sSeq (sFor (iR1 (aCons (dVar 2) aNil)) (gSet 5) (sApp1 4 (d2 gIx (dVar 3) (dVar 5)) (dVar 5)))
 (sSeq (sTreS 4 11 (tBl (d2 gGt (dCB gLen (aCons (dVar 11) aNil)) (dC (.int 0)))) [11])
 (sSeq (sSet 6 (dCall F__law_draw (aCons (dVar 0) (aCons (d2 gAdd (d2 gMulI (dC (.int 9)) (dVar 1)) (dC (.int 8))) (aCons (dL (lLst (aCons (dC (.int 10)) (aCons (dC (.int 5)) (aCons (dC (.int 7)) aNil))))) aNil)))))
 (sSeq (sIf (tBl (d2 gEq (d2 gIx (dVar 6) (dC (.int 0))) (dC (.int 0)))) (fun en => (sSet 4 (dL (lRevL (dVar 4)))) (frz 4 en)) (sIf (tScal (tAnd2 (tBl (d2 gEq (d2 gIx (dVar 6) (dC (.int 0))) (dC (.int 1)))) (tBl (d2 gGt (dCB gLen (aCons (dVar 4) aNil)) (dC (.int 0)))))) (sApp1 4 (dScal (d2 gMod (d2 gIx (dVar 6) (dC (.int 1))) (dCB gLen (aCons (dVar 4) aNil)))) (d2 gSub (d2 gIx (dVar 6) (dC (.int 2))) (dC (.int 1)))) (sIf (tScal (tAnd2 (tBl (d2 gEq (d2 gIx (dVar 6) (dC (.int 0))) (dC (.int 2)))) (tBl (d2 gGt (dCB gLen (aCons (dVar 4) aNil)) (dC (.int 0)))))) (sPutK 4 (d2 gMod (d2 gIx (dVar 6) (dC (.int 1))) (dCB gLen (aCons (dVar 4) aNil))) (lRevL (d2 gIx (dVar 4) (d2 gMod (d2 gIx (dVar 6) (dC (.int 1))) (dCB gLen (aCons (dVar 4) aNil)))))) (sIf (tBl (d2 gEq (d2 gIx (dVar 6) (dC (.int 0))) (dC (.int 3)))) (fun en => (sSet 4 (dL (lCat (lCat (lCutL (dVar 4) oNo (oInt (d2 gIx (dVar 6) (dC (.int 1))))) (lLst (aCons (dL (lLst aNil)) aNil))) (lCutL (dVar 4) (oInt (d2 gIx (dVar 6) (dC (.int 1)))) oNo)))) (frz 4 en)) (sIf (tScal (tAnd2 (tBl (d2 gEq (d2 gIx (dVar 6) (dC (.int 0))) (dC (.int 4)))) (tBl (d2 gGt (dCB gLen (aCons (dVar 4) aNil)) (dC (.int 0)))))) (sPutK 4 (d2 gMod (d2 gIx (dVar 6) (dC (.int 1))) (dCB gLen (aCons (dVar 4) aNil))) (lCutL (d2 gIx (dVar 4) (d2 gMod (d2 gIx (dVar 6) (dC (.int 1))) (dCB gLen (aCons (dVar 4) aNil)))) (oInt (dC (.int 1))) oNo)) (sIf (tScal (tAnd2 (tBl (d2 gEq (d2 gIx (dVar 6) (dC (.int 0))) (dC (.int 5)))) (tBl (d2 gGt (dCB gLen (aCons (dVar 4) aNil)) (dC (.int 0)))))) (fun en => (sSet 4 (d2 gAddB (dVar 4) (dL (lLst (aCons (d2 gIx (dVar 4) (d2 gMod (d2 gIx (dVar 6) (dC (.int 1))) (dCB gLen (aCons (dVar 4) aNil)))) aNil))))) (frz 4 en)) (sIf (tBl (d2 gEq (d2 gIx (dVar 6) (dC (.int 0))) (dC (.int 6)))) (sSet 4 (dL (lLst (aCons (dL (lRg1 (dVar 2))) aNil)))) sNil)))))))
 (fun en => (sSeq (sSet 7 (dCB gTuple (aCons (dL (lLc (iAny (dVar 4)) (gSet 11) fYes (dCB gTuple (aCons (dVar 11) aNil)) [11])) aNil)))
 (sSeq (sFor (iAny (dL (lLst (aCons (dC (.bl false)) (aCons (dC (.bl true)) aNil))))) (gSet 8) (sIf (tBl (d2 gNe (dCall F_flaw_of_cutting (aSnoc 3 (aCons (dVar 9) (aCons (dVar 10) (aCons (dVar 7) aNil))) (dVar 8))) (dCall F__law_flaw (aCons (dVar 9) (aCons (dVar 10) (aCons (dVar 7) (aCons (dVar 8) aNil))))))) (sRet (dC (.bl false))) sNil))
 (sIf (tBl (d2 gNe (dCall F_flaw_of_cutting (aPlus (aCons (dVar 9) (aCons (dVar 10) (aCons (dVar 7) aNil))) [.bl false])) (dCall F__law_flaw (aCons (dVar 9) (aCons (dVar 10) (aCons (dVar 7) (aCons (dC (.bl false)) aNil))))))) (sRet (dC (.bl false))) sNil))) (frz 4 en)))))))))))
 (sRet (dC (.bl true))))
def F_law : List D → Option D := runD g_law 12 1
structure Tx (K : PySem.W.Frag) (mg : Str → Option Value) where
  f_least_width : Addr
  fd_least_width : FuncData
  F_least_width : Fun K "least_width" "least_width" s_least_width f_least_width fd_least_width
  g_least_width : mg "least_width" = some (.ref f_least_width)
  b_least_width : Binds K fd_least_width ["piece", "length"] []
  f_turned_length : Addr
  fd_turned_length : FuncData
  F_turned_length : Fun K "turned_length" "turned_length" s_turned_length f_turned_length fd_turned_length
  g_turned_length : mg "turned_length" = some (.ref f_turned_length)
  b_turned_length : Binds K fd_turned_length ["laid", "width"] []
  f_row_length : Addr
  fd_row_length : FuncData
  F_row_length : Fun K "row_length" "row_length" s_row_length f_row_length fd_row_length
  g_row_length : mg "row_length" = some (.ref f_row_length)
  dv_row_length : List Value
  b_row_length : KwOnly K fd_row_length ["pieces", "row", "width", "turned"] 3 "turned" false dv_row_length
  f_row_flaw : Addr
  fd_row_flaw : FuncData
  F_row_flaw : Fun K "row_flaw" "row_flaw" s_row_flaw f_row_flaw fd_row_flaw
  g_row_flaw : mg "row_flaw" = some (.ref f_row_flaw)
  b_row_flaw : Binds K fd_row_flaw ["pieces", "width", "cutting", "place", "turned"] []
  f_flaw_of_cutting : Addr
  fd_flaw_of_cutting : FuncData
  F_flaw_of_cutting : Fun K "flaw_of_cutting" "flaw_of_cutting" s_flaw_of_cutting f_flaw_of_cutting fd_flaw_of_cutting
  g_flaw_of_cutting : mg "flaw_of_cutting" = some (.ref f_flaw_of_cutting)
  dv_flaw_of_cutting : List Value
  b_flaw_of_cutting : KwOnly K fd_flaw_of_cutting ["pieces", "width", "cutting", "turned"] 3 "turned" false dv_flaw_of_cutting
  f__law_cell : Addr
  fd__law_cell : FuncData
  F__law_cell : Fun K "_law_cell" "_law_cell" s__law_cell f__law_cell fd__law_cell
  g__law_cell : mg "_law_cell" = some (.ref f__law_cell)
  b__law_cell : Binds K fd__law_cell ["script", "k"] []
  f__law_draw : Addr
  fd__law_draw : FuncData
  F__law_draw : Fun K "_law_draw" "_law_draw" s__law_draw f__law_draw fd__law_draw
  g__law_draw : mg "_law_draw" = some (.ref f__law_draw)
  b__law_draw : Binds K fd__law_draw ["script", "k", "sizes"] []
  f__law_row : Addr
  fd__law_row : FuncData
  F__law_row : Fun K "_law_row" "_law_row" s__law_row f__law_row fd__law_row
  g__law_row : mg "_law_row" = some (.ref f__law_row)
  b__law_row : Binds K fd__law_row ["pieces", "row", "width", "turned"] []
  f__law_pieces : Addr
  fd__law_pieces : FuncData
  F__law_pieces : Fun K "_law_pieces" "_law_pieces" s__law_pieces f__law_pieces fd__law_pieces
  g__law_pieces : mg "_law_pieces" = some (.ref f__law_pieces)
  b__law_pieces : Binds K fd__law_pieces ["script", "at", "many"] []
  f__law_flaw : Addr
  fd__law_flaw : FuncData
  F__law_flaw : Fun K "_law_flaw" "_law_flaw" s__law_flaw f__law_flaw fd__law_flaw
  g__law_flaw : mg "_law_flaw" = some (.ref f__law_flaw)
  b__law_flaw : Binds K fd__law_flaw ["pieces", "width", "cutting", "turned"] []
  n_any : mg "any" = none
  n_len : mg "len" = none
  n_list : mg "list" = none
  n_max : mg "max" = none
  n_min : mg "min" = none
  n_range : mg "range" = none
  n_sorted : mg "sorted" = none
  n_sum : mg "sum" = none
  n_tuple : mg "tuple" = none
  n_zip : mg "zip" = none
section
variable {P : Program} {w : World} {K : PySem.W.Frag} {mg : Str → Option Value} {base : Heap}
theorem ok_least_width (T : Tx K mg) : FnOk P w K mg base CX0 1 T.f_least_width T.fd_least_width ["piece", "length"] (spD K F_least_width) :=
  fn_ok (k := 0) T.F_least_width sc_least_width (by decide) fun cdv A outer s H E hr => ⟨_,
  (dss_cons (ds_setH (i := 2) sc_least_width.nd rfl (by first | exact .inl rfl | exact .inr rfl) (DL.de (dl_lst (da_cons (de_var 0 (pv 0)) (da_cons (de_tup (da_cons (de_at (de_var 0 (pv 0)) de_int (fun _ _ => rfl)) (da_cons (de_at (de_var 0 (pv 0)) de_int (fun _ _ => rfl)) da_nil))) da_nil)))))
 (dss_one (ds_ret (de_minDefN (K := K) rfl rfl hr rfl T.n_min (DL.de (dl_lc (own := [("way", 3)]) rfl sc_least_width.nd (di_any (de_var 2 (pv 2))) (blkOk_by (N := N_least_width) (sc := defScope s_least_width) (by decide +kernel))
 (fun _ _ _ _ _ => (dg_name (i := 3) (pg_name (i := 3) sc_least_width.nd rfl (by first | exact .inl rfl | exact .inr rfl)))) (fun _ _ _ _ _ => (dts_one (dt_le (de_atK (K := K) rfl (de_var 3 (pv 3)) de_int (fun _ _ => rfl)) (de_var 1 (pv 1)))))
 (fun _ _ _ _ _ => (de_atK (K := K) rfl (de_var 3 (pv 3)) de_int (fun _ _ => rfl))))) pe_non (hkc := pk_cons pe_non pk_nil)))))⟩
theorem ok_turned_length (T : Tx K mg) : FnOk P w K mg base CX0 2 T.f_turned_length T.fd_turned_length ["laid", "width"] (spD K F_turned_length) :=
  fn_ok (k := 1) T.F_turned_length sc_turned_length (by decide) fun cdv A outer s H E hr => ⟨_,
  (dss_cons (ds_for PassesOwn.never rfl (di_any (DL.de (dl_srt (K := K) rfl hr rfl T.n_sorted (DL.de (dl_cat (dl_lst (da_cons de_int da_nil)) (dl_lc2 (own := [("piece", 4), ("side", 5)]) (vs1 := [5]) rfl sc_turned_length.nd (di_any (de_var 0 (pv 0))) (blkOk_by (N := N_turned_length) (sc := defScope s_turned_length) (by decide +kernel))
 (fun _ _ _ _ _ => (dg_name (i := 4) (pg_name (i := 4) sc_turned_length.nd rfl (by first | exact .inl rfl | exact .inr rfl)))) (fun _ _ _ _ _ => dts_nil) (fun _ _ _ _ _ => (di_anyK (K := K) rfl (de_var 4 (pv 4)))) (fun _ _ _ _ _ => (dg_name (i := 5) (pg_name (i := 5) sc_turned_length.nd rfl (by first | exact .inl rfl | exact .inr rfl)))) (fun _ _ _ _ _ => dts_nil)
 (fun _ _ _ _ _ => (de_var 5 (pv 5))))))))) (dg_name (i := 2) (pg_name (i := 2) sc_turned_length.nd rfl (by first | exact .inl rfl | exact .inr rfl)))
 (dss_cons (ds_setLcD (i := 3) (own := [("piece", 4)]) rfl sc_turned_length.nd (di_any (de_var 0 (pv 0))) (blkOk_by (N := N_turned_length) (sc := defScope s_turned_length) (by decide +kernel))
 (fun _ _ _ _ _ => (dg_name (i := 4) (pg_name (i := 4) sc_turned_length.nd rfl (by first | exact .inl rfl | exact .inr rfl)))) (fun _ _ _ _ _ => dts_nil)
 (fun _ _ _ _ _ => (de_callK (K := K) rfl (ok_least_width T) (hr.mono (by decide)) rfl T.g_least_width T.F_least_width.kp T.b_least_width (da_cons (de_var 4 (pv 4)) (da_cons (de_var 2 (pv 2)) da_nil)))) rfl rfl rfl)
 (dss_one (ds_if (DW.dt (dw_and (dt_notInL hr de_non (de_var 3 (pv 3))) (dw_one (dt_le (de_sum rfl rfl T.n_sum (de_var 3 (pv 3))) (de_var 1 (pv 1))))))
 (dss_one (ds_ret (de_var 2 (pv 2))))
 dss_nil))))
 (dss_one (ds_ret de_non)))⟩
theorem ok_row_length (T : Tx K mg) : FnOk P w K mg base CX0 3 T.f_row_length T.fd_row_length ["pieces", "row", "width", "turned"] (spD K F_row_length) :=
  fn_ok (k := 2) T.F_row_length sc_row_length (by decide) fun cdv A outer s H E hr => ⟨_,
  (dss_cons (ds_setLcD (i := 4) (own := [("number", 5)]) rfl sc_row_length.nd (di_any (de_var 1 (pv 1))) (blkOk_by (N := N_row_length) (sc := defScope s_row_length) (by decide +kernel))
 (fun _ _ _ _ _ => (dg_name (i := 5) (pg_name (i := 5) sc_row_length.nd rfl (by first | exact .inl rfl | exact .inr rfl)))) (fun _ _ _ _ _ => dts_nil)
 (fun _ _ _ _ _ => (de_atK (K := K) rfl (de_var 0 (pv 0)) (de_var 5 (pv 5)) (fun _ _ => rfl))) rfl rfl rfl)
 (dss_cons (ds_if (dt_val (de_var 3 (pv 3)))
 (dss_one (ds_ret (de_call (ok_turned_length T) (hr.mono (by decide)) rfl T.g_turned_length T.F_turned_length.kp T.b_turned_length (da_cons (de_var 4 (pv 4)) (da_cons (de_var 2 (pv 2)) da_nil)))))
 dss_nil)
 (dss_cons (ds_if (dt_gt (de_sum rfl rfl T.n_sum (DL.de (dl_lc (own := [("piece", 6)]) rfl sc_row_length.nd (di_any (de_var 4 (pv 4))) (blkOk_by (N := N_row_length) (sc := defScope s_row_length) (by decide +kernel))
 (fun _ _ _ _ _ => (dg_name (i := 6) (pg_name (i := 6) sc_row_length.nd rfl (by first | exact .inl rfl | exact .inr rfl)))) (fun _ _ _ _ _ => dts_nil)
 (fun _ _ _ _ _ => (de_atK (K := K) rfl (de_var 6 (pv 6)) de_int (fun _ _ => rfl)))))) (de_var 2 (pv 2)))
 (dss_one (ds_ret de_non))
 dss_nil)
 (dss_one (ds_ret (de_maxDef (K := K) rfl rfl hr rfl T.n_max (DL.de (dl_lc (own := [("piece", 6)]) rfl sc_row_length.nd (di_any (de_var 4 (pv 4))) (blkOk_by (N := N_row_length) (sc := defScope s_row_length) (by decide +kernel))
 (fun _ _ _ _ _ => (dg_name (i := 6) (pg_name (i := 6) sc_row_length.nd rfl (by first | exact .inl rfl | exact .inr rfl)))) (fun _ _ _ _ _ => dts_nil)
 (fun _ _ _ _ _ => (de_atK (K := K) rfl (de_var 6 (pv 6)) de_int (fun _ _ => rfl)))))))))))⟩
theorem ok_row_flaw (T : Tx K mg) : FnOk P w K mg base CX0 4 T.f_row_flaw T.fd_row_flaw ["pieces", "width", "cutting", "place", "turned"] (spD K F_row_flaw) :=
  fn_ok (k := 3) T.F_row_flaw sc_row_flaw (by decide) fun cdv A outer s H E hr => ⟨_,
  (dss_cons (ds_asgG (de_tup (da_cons (de_at (de_var 2 (pv 2)) (de_var 3 (pv 3)) (fun _ _ => rfl)) (da_cons (de_cutA (K := K) rfl (de_var 2 (pv 2)) do_none (do_some (de_var 3 (pv 3)))) da_nil))) (dg_tup (K := K) (n := 2) rfl rfl (dgs_cons (dg_name (i := 5) (pg_name (i := 5) sc_row_flaw.nd rfl (by first | exact .inl rfl | exact .inr rfl))) (dgs_cons (dg_name (i := 6) (pg_name (i := 6) sc_row_flaw.nd rfl (by first | exact .inl rfl | exact .inr rfl))) dgs_nil))))
 (dss_cons (ds_if (dt_not (dt_tr (de_var 5 (pv 5))))
 (dss_one (ds_ret de_str))
 dss_nil)
 (dss_cons (ds_if (dt_val (de_any rfl rfl T.n_any (DL.de (dl_lc (own := [("one", 9), ("other", 7)]) rfl sc_row_flaw.nd (di_zip2 (K := K) rfl rfl T.n_zip (da_cons (de_var 5 (pv 5)) (da_cons (de_cutA (K := K) rfl (de_var 5 (pv 5)) (do_some de_int) do_none) da_nil))) (blkOk_by (N := N_row_flaw) (sc := defScope s_row_flaw) (by decide +kernel))
 (fun _ _ _ _ _ => (dg_tup (K := K) (n := 2) rfl rfl (dgs_cons (dg_name (i := 9) (pg_name (i := 9) sc_row_flaw.nd rfl (by first | exact .inl rfl | exact .inr rfl))) (dgs_cons (dg_name (i := 7) (pg_name (i := 7) sc_row_flaw.nd rfl (by first | exact .inl rfl | exact .inr rfl))) dgs_nil)))) (fun _ _ _ _ _ => dts_nil)
 (fun _ _ _ _ _ => (de_ge (de_var 9 (pv 9)) (de_var 7 (pv 7))))))))
 (dss_one (ds_ret de_str))
 dss_nil)
 (dss_cons (ds_if (DW.dt (dw_or (dt_lt (de_at (de_var 5 (pv 5)) de_int (fun _ _ => rfl)) de_int) (dw_one' (dt_ge (de_at (de_var 5 (pv 5)) (de_neg de_int) (fun _ _ => rfl)) (de_len rfl T.n_len (de_var 0 (pv 0)))))))
 (dss_one (ds_ret de_str))
 dss_nil)
 (dss_cons (ds_if (dt_val (de_any rfl rfl T.n_any (DL.de (dl_lc2 (own := [("other", 7), ("number", 8)]) (vs1 := [8]) rfl sc_row_flaw.nd (di_any (de_var 6 (pv 6))) (blkOk_by (N := N_row_flaw) (sc := defScope s_row_flaw) (by decide +kernel))
 (fun _ _ _ _ _ => (dg_name (i := 7) (pg_name (i := 7) sc_row_flaw.nd rfl (by first | exact .inl rfl | exact .inr rfl)))) (fun _ _ _ _ _ => dts_nil) (fun _ _ _ _ _ => (di_anyK (K := K) rfl (de_var 5 (pv 5)))) (fun _ _ _ _ _ => (dg_name (i := 8) (pg_name (i := 8) sc_row_flaw.nd rfl (by first | exact .inl rfl | exact .inr rfl)))) (fun _ _ _ _ _ => dts_nil)
 (fun _ _ _ _ _ => (de_inA (K := K) rfl hr (de_var 8 (pv 8)) (de_var 7 (pv 7))))))))
 (dss_one (ds_ret de_str))
 dss_nil)
 (dss_cons (ds_if (DW.dt (dw_and (dt_tr (de_var 6 (pv 6))) (dw_one (dt_lt (de_at (de_var 5 (pv 5)) de_int (fun _ _ => rfl)) (de_at (de_at (de_var 6 (pv 6)) (de_neg de_int) (fun _ _ => rfl)) de_int (fun _ _ => rfl))))))
 (dss_one (ds_ret de_str))
 dss_nil)
 (dss_cons (ds_if (dt_isN (de_callN (n := 3) (kn := "turned") (ok_row_length T) (hr.mono (by decide)) rfl T.g_row_length T.F_row_length.kp T.b_row_length.kbn (da_cons (de_var 0 (pv 0)) (da_cons (de_var 5 (pv 5)) (da_cons (de_var 1 (pv 1)) da_nil))) (de_var 4 (pv 4)) (pk_cons ((de_var 4 (pv 4))).p pk_nil)) de_non)
 (dss_one (ds_ret de_str))
 dss_nil)
 (dss_one (ds_ret de_non)))))))))⟩
theorem ok_flaw_of_cutting (T : Tx K mg) : FnOk P w K mg base CX0 5 T.f_flaw_of_cutting T.fd_flaw_of_cutting ["pieces", "width", "cutting", "turned"] (spD K F_flaw_of_cutting) :=
  fn_ok (k := 4) T.F_flaw_of_cutting sc_flaw_of_cutting (by decide) fun cdv A outer s H E hr => ⟨_,
  (dss_cons (ds_for PassesOwn.never rfl (di_r1 rfl T.n_range (da_cons (de_len rfl T.n_len (de_var 2 (pv 2))) da_nil)) (dg_name (i := 4) (pg_name (i := 4) sc_flaw_of_cutting.nd rfl (by first | exact .inl rfl | exact .inr rfl)))
 (dss_cons (ds_setH (i := 5) sc_flaw_of_cutting.nd rfl (by first | exact .inl rfl | exact .inr rfl) (de_call (ok_row_flaw T) (hr.mono (by decide)) rfl T.g_row_flaw T.F_row_flaw.kp T.b_row_flaw (da_cons (de_var 0 (pv 0)) (da_cons (de_var 1 (pv 1)) (da_cons (de_var 2 (pv 2)) (da_cons (de_var 4 (pv 4)) (da_cons (de_var 3 (pv 3)) da_nil)))))))
 (dss_one (ds_if (dt_notN (de_var 5 (pv 5)) de_non)
 (dss_one (ds_ret (de_tup (da_cons (de_var 4 (pv 4)) (da_cons (de_var 5 (pv 5)) da_nil)))))
 dss_nil))))
 (dss_cons (ds_if (dt_lt (de_sum rfl rfl T.n_sum (DL.de (dl_lc (own := [("row", 6)]) rfl sc_flaw_of_cutting.nd (di_any (de_var 2 (pv 2))) (blkOk_by (N := N_flaw_of_cutting) (sc := defScope s_flaw_of_cutting) (by decide +kernel))
 (fun _ _ _ _ _ => (dg_name (i := 6) (pg_name (i := 6) sc_flaw_of_cutting.nd rfl (by first | exact .inl rfl | exact .inr rfl)))) (fun _ _ _ _ _ => dts_nil)
 (fun _ _ _ _ _ => (de_lenK (K := K) rfl rfl T.n_len (de_var 6 (pv 6))))))) (de_len rfl T.n_len (de_var 0 (pv 0))))
 (dss_one (ds_ret (de_tup (da_cons (de_len rfl T.n_len (de_var 2 (pv 2))) (da_cons de_str da_nil)))))
 dss_nil)
 (dss_one (ds_ret de_non))))⟩
theorem ok__law_cell (T : Tx K mg) : FnOk P w K mg base CX0 1 T.f__law_cell T.fd__law_cell ["script", "k"] (spD K F__law_cell) :=
  fn_ok (k := 0) T.F__law_cell sc__law_cell (by decide) fun cdv A outer s H E hr => ⟨_,
  (dss_cons (ds_if (dt_lt (de_var 1 (pv 1)) (de_len rfl T.n_len (de_var 0 (pv 0))))
 (dss_one (ds_ret (de_at (de_var 0 (pv 0)) (de_var 1 (pv 1)) (fun _ _ => rfl))))
 dss_nil)
 (dss_one (ds_ret de_int)))⟩
theorem ok__law_draw (T : Tx K mg) : FnOk P w K mg base CX0 2 T.f__law_draw T.fd__law_draw ["script", "k", "sizes"] (spD K F__law_draw) :=
  fn_ok (k := 1) T.F__law_draw sc__law_draw (by decide) fun cdv A outer s H E hr => ⟨_,
  (dss_cons (ds_setH (i := 3) sc__law_draw.nd rfl (by first | exact .inl rfl | exact .inr rfl) (de_call (ok__law_cell T) (hr.mono (by decide)) rfl T.g__law_cell T.F__law_cell.kp T.b__law_cell (da_cons (de_var 0 (pv 0)) (da_cons (de_var 1 (pv 1)) da_nil))))
 (dss_cons (ds_if (dt_lt (de_var 3 (pv 3)) de_int)
 (dss_one (ds_setH (i := 3) sc__law_draw.nd rfl (by first | exact .inl rfl | exact .inr rfl) (de_neg (de_var 3 (pv 3)))))
 dss_nil)
 (dss_cons (ds_ownH (i := 4) sc__law_draw.nd rfl (by first | exact .inl rfl | exact .inr rfl) (dl_lst da_nil))
 (dss_cons (ds_if (dt_ge (de_var 3 (pv 3)) (de_pow de_int de_int))
 (dss_cons (ds_setH (i := 3) sc__law_draw.nd rfl (by first | exact .inl rfl | exact .inr rfl) (de_sub (de_var 3 (pv 3)) (de_pow de_int de_int)))
 (dss_cons (ds_for PassesOwn.never rfl (di_any (de_var 2 (pv 2))) (dg_name (i := 7) (pg_name (i := 7) sc__law_draw.nd rfl (by first | exact .inl rfl | exact .inr rfl)))
 (dss_cons (ds_app (i := 4) (pv 4) (de_mod (de_var 3 (pv 3)) (de_var 7 (pv 7))))
 (dss_one (ds_setH (i := 3) sc__law_draw.nd rfl (by first | exact .inl rfl | exact .inr rfl) (de_fdiv (de_var 3 (pv 3)) (de_var 7 (pv 7)))))))
 (DSs.frz 4 (dss_one (ds_ret (de_var 4 (pv 4)))))))
 dss_nil)
 (dss_cons (ds_setH (i := 5) sc__law_draw.nd rfl (by first | exact .inl rfl | exact .inr rfl) (de_mod (de_add (de_add (de_var 3 (pv 3)) de_int) (de_mul de_int (de_var 1 (pv 1)))) de_int))
 (dss_cons (ds_for PassesOwn.never rfl (di_r1 rfl T.n_range (da_cons (de_len rfl T.n_len (de_var 2 (pv 2))) da_nil)) (dg_name (i := 6) (pg_name (i := 6) sc__law_draw.nd rfl (by first | exact .inl rfl | exact .inr rfl)))
 (dss_cons (ds_setH (i := 5) sc__law_draw.nd rfl (by first | exact .inl rfl | exact .inr rfl) (de_mod (de_add (de_add (de_mul (de_var 5 (pv 5)) de_int) de_int) (de_var 6 (pv 6))) de_int))
 (dss_cons (ds_setH (i := 5) sc__law_draw.nd rfl (by first | exact .inl rfl | exact .inr rfl) (de_mod (de_add (de_mul (de_var 5 (pv 5)) de_int) de_int) de_int))
 (dss_one (ds_app (i := 4) (pv 4) (de_mod (de_fdiv (de_var 5 (pv 5)) de_int) (de_at (de_var 2 (pv 2)) (de_var 6 (pv 6)) (fun _ _ => rfl))))))))
 (DSs.frz 4 (dss_one (ds_ret (de_var 4 (pv 4)))))))))))⟩
theorem ok__law_row (T : Tx K mg) : FnOk P w K mg base CX0 1 T.f__law_row T.fd__law_row ["pieces", "row", "width", "turned"] (spD K F__law_row) :=
  fn_ok (k := 0) T.F__law_row sc__law_row (by decide) fun cdv A outer s H E hr => ⟨_,
  (dss_cons (ds_setH (i := 4) sc__law_row.nd rfl (by first | exact .inl rfl | exact .inr rfl) de_non)
 (dss_cons (ds_setH (i := 5) sc__law_row.nd rfl (by first | exact .inl rfl | exact .inr rfl) (DL.de (dl_lst (da_cons (de_tup (da_cons de_int (da_cons de_int da_nil))) da_nil))))
 (dss_cons (ds_for PassesOwn.never rfl (di_any (de_var 1 (pv 1))) (dg_name (i := 6) (pg_name (i := 6) sc__law_row.nd rfl (by first | exact .inl rfl | exact .inr rfl)))
 (dss_cons (ds_ownH (i := 7) sc__law_row.nd rfl (by first | exact .inl rfl | exact .inr rfl) (dl_lst da_nil))
 (dss_cons (ds_for PassesOwn.never rfl (di_any (de_var 5 (pv 5))) (dg_tup (K := K) (n := 2) rfl rfl (dgs_cons (dg_name (i := 8) (pg_name (i := 8) sc__law_row.nd rfl (by first | exact .inl rfl | exact .inr rfl))) (dgs_cons (dg_name (i := 9) (pg_name (i := 9) sc__law_row.nd rfl (by first | exact .inl rfl | exact .inr rfl))) dgs_nil)))
 (dss_cons (ds_app (i := 7) (pv 7) (de_tup (da_cons (de_add (de_var 8 (pv 8)) (de_at (de_at (de_var 0 (pv 0)) (de_var 6 (pv 6)) (fun _ _ => rfl)) de_int (fun _ _ => rfl))) (da_cons (de_max2 rfl rfl T.n_max (da_cons (de_var 9 (pv 9)) (da_cons (de_at (de_at (de_var 0 (pv 0)) (de_var 6 (pv 6)) (fun _ _ => rfl)) de_int (fun _ _ => rfl)) da_nil))) da_nil))))
 (dss_one (ds_if (dt_val (de_var 3 (pv 3)))
 (dss_one (ds_app (i := 7) (pv 7) (de_tup (da_cons (de_add (de_var 8 (pv 8)) (de_at (de_at (de_var 0 (pv 0)) (de_var 6 (pv 6)) (fun _ _ => rfl)) de_int (fun _ _ => rfl))) (da_cons (de_max2 rfl rfl T.n_max (da_cons (de_var 9 (pv 9)) (da_cons (de_at (de_at (de_var 0 (pv 0)) (de_var 6 (pv 6)) (fun _ _ => rfl)) de_int (fun _ _ => rfl)) da_nil))) da_nil)))))
 dss_nil))))
 (DSs.frz 7 (dss_one (ds_setLcD (i := 5) (own := [("one", 10)]) rfl sc__law_row.nd (di_any (de_var 7 (pv 7))) (blkOk_by (N := N__law_row) (sc := defScope s__law_row) (by decide +kernel))
 (fun _ _ _ _ _ => (dg_name (i := 10) (pg_name (i := 10) sc__law_row.nd rfl (by first | exact .inl rfl | exact .inr rfl)))) (fun _ _ _ _ _ => (dts_one (dt_le (de_atK (K := K) rfl (de_var 10 (pv 10)) de_int (fun _ _ => rfl)) (de_var 2 (pv 2)))))
 (fun _ _ _ _ _ => (de_var 10 (pv 10))) rfl rfl rfl))))))
 (dss_cons (ds_for PassesOwn.never rfl (di_any (de_var 5 (pv 5))) (dg_tup (K := K) (n := 2) rfl rfl (dgs_cons (dg_name (i := 8) (pg_name (i := 8) sc__law_row.nd rfl (by first | exact .inl rfl | exact .inr rfl))) (dgs_cons (dg_name (i := 9) (pg_name (i := 9) sc__law_row.nd rfl (by first | exact .inl rfl | exact .inr rfl))) dgs_nil)))
 (dss_one (ds_if (DW.dt (dw_or (dt_isN (de_var 4 (pv 4)) de_non) (dw_one' (dt_lt (de_var 9 (pv 9)) (de_var 4 (pv 4))))))
 (dss_one (ds_setH (i := 4) sc__law_row.nd rfl (by first | exact .inl rfl | exact .inr rfl) (de_var 9 (pv 9))))
 dss_nil)))
 (dss_one (ds_ret (de_var 4 (pv 4))))))))⟩
theorem ok__law_pieces (T : Tx K mg) : FnOk P w K mg base CX0 3 T.f__law_pieces T.fd__law_pieces ["script", "at", "many"] (spD K F__law_pieces) :=
  fn_ok (k := 2) T.F__law_pieces sc__law_pieces (by decide) fun cdv A outer s H E hr => ⟨_,
  (dss_cons (ds_setH (i := 3) sc__law_pieces.nd rfl (by first | exact .inl rfl | exact .inr rfl) (de_call (ok__law_draw T) (hr.mono (by decide)) rfl T.g__law_draw T.F__law_draw.kp T.b__law_draw (da_cons (de_var 0 (pv 0)) (da_cons (de_var 1 (pv 1)) (da_cons (DL.de (dl_lst (da_cons de_int (da_cons de_int da_nil)))) da_nil)))))
 (dss_cons (ds_ownH (i := 4) sc__law_pieces.nd rfl (by first | exact .inl rfl | exact .inr rfl) (dl_lst da_nil))
 (dss_cons (ds_for PassesOwn.never rfl (di_r1 rfl T.n_range (da_cons (de_var 2 (pv 2)) da_nil)) (dg_name (i := 5) (pg_name (i := 5) sc__law_pieces.nd rfl (by first | exact .inl rfl | exact .inr rfl)))
 (dss_cons (ds_setH (i := 7) sc__law_pieces.nd rfl (by first | exact .inl rfl | exact .inr rfl) (de_call (ok__law_draw T) (hr.mono (by decide)) rfl T.g__law_draw T.F__law_draw.kp T.b__law_draw (da_cons (de_var 0 (pv 0)) (da_cons (de_add (de_add (de_var 1 (pv 1)) de_int) (de_mod (de_var 5 (pv 5)) de_int)) (da_cons (DL.de (dl_lst (da_cons de_int (da_cons de_int (da_cons de_int (da_cons de_int da_nil)))))) da_nil)))))
 (dss_cons (ds_setH (i := 8) sc__law_pieces.nd rfl (by first | exact .inl rfl | exact .inr rfl) (de_add de_int (de_mod (de_add (de_at (de_var 7 (pv 7)) de_int (fun _ _ => rfl)) (de_var 5 (pv 5))) de_int)))
 (dss_cons (ds_setH (i := 9) sc__law_pieces.nd rfl (by first | exact .inl rfl | exact .inr rfl) (de_add de_int (de_mod (de_add (de_at (de_var 7 (pv 7)) de_int (fun _ _ => rfl)) (de_mul de_int (de_var 5 (pv 5)))) de_int)))
 (dss_cons (ds_if (dt_eq hr (de_at (de_var 3 (pv 3)) de_int (fun _ _ => rfl)) de_int)
 (dss_cons (ds_setH (i := 8) sc__law_pieces.nd rfl (by first | exact .inl rfl | exact .inr rfl) (de_add de_int (de_mod (de_add (de_at (de_var 7 (pv 7)) de_int (fun _ _ => rfl)) (de_mul de_int (de_var 5 (pv 5)))) de_int)))
 (dss_one (ds_setH (i := 9) sc__law_pieces.nd rfl (by first | exact .inl rfl | exact .inr rfl) (de_add de_int (de_mod (de_add (de_at (de_var 7 (pv 7)) de_int (fun _ _ => rfl)) (de_mul de_int (de_var 5 (pv 5)))) de_int)))))
 dss_nil)
 (dss_one (ds_app (i := 4) (pv 4) (de_tup (da_cons (de_var 8 (pv 8)) (da_cons (de_var 9 (pv 9)) da_nil))))))))))
 (dss_cons (ds_setH (i := 6) sc__law_pieces.nd rfl (by first | exact .inl rfl | exact .inr rfl) (de_add de_int (de_at (de_var 3 (pv 3)) de_int (fun _ _ => rfl))))
 (dss_cons (ds_if (dt_eq hr (de_at (de_var 3 (pv 3)) de_int (fun _ _ => rfl)) de_int)
 (dss_one (ds_setH (i := 6) sc__law_pieces.nd rfl (by first | exact .inl rfl | exact .inr rfl) (de_add de_int (de_mul de_int (de_at (de_var 3 (pv 3)) de_int (fun _ _ => rfl))))))
 dss_nil)
 (dss_cons (ds_if (dt_eq hr (de_at (de_var 3 (pv 3)) de_int (fun _ _ => rfl)) de_int)
 (dss_one (ds_setH (i := 6) sc__law_pieces.nd rfl (by first | exact .inl rfl | exact .inr rfl) (de_add de_int (de_mod (de_at (de_var 3 (pv 3)) de_int (fun _ _ => rfl)) de_int))))
 dss_nil)
 (DSs.frz 4 (dss_one (ds_ret (de_tup (da_cons (de_var 4 (pv 4)) (da_cons (de_var 6 (pv 6)) da_nil))))))))))))⟩
theorem ok__law_flaw (T : Tx K mg) : FnOk P w K mg base CX0 2 T.f__law_flaw T.fd__law_flaw ["pieces", "width", "cutting", "turned"] (spD K F__law_flaw) :=
  fn_ok (k := 1) T.F__law_flaw sc__law_flaw (by decide) fun cdv A outer s H E hr => ⟨_,
  (dss_cons (ds_setH (i := 4) sc__law_flaw.nd rfl (by first | exact .inl rfl | exact .inr rfl) (DL.de (dl_lst da_nil)))
 (dss_cons (ds_for PassesOwn.never rfl (di_r1 rfl T.n_range (da_cons (de_len rfl T.n_len (de_var 2 (pv 2))) da_nil)) (dg_name (i := 5) (pg_name (i := 5) sc__law_flaw.nd rfl (by first | exact .inl rfl | exact .inr rfl)))
 (dss_cons (ds_setH (i := 6) sc__law_flaw.nd rfl (by first | exact .inl rfl | exact .inr rfl) (DL.de (dl_list rfl T.n_list (de_at (de_var 2 (pv 2)) (de_var 5 (pv 5)) (fun _ _ => rfl)))))
 (dss_cons (ds_if (dt_eq hr (de_len rfl T.n_len (de_var 6 (pv 6))) de_int)
 (dss_one (ds_ret (de_tup (da_cons (de_var 5 (pv 5)) (da_cons de_str da_nil)))))
 dss_nil)
 (dss_cons (ds_for PassesOwn.never rfl (di_r2 rfl T.n_range (da_cons de_int (da_cons (de_len rfl T.n_len (de_var 6 (pv 6))) da_nil))) (dg_name (i := 7) (pg_name (i := 7) sc__law_flaw.nd rfl (by first | exact .inl rfl | exact .inr rfl)))
 (dss_one (ds_if (dt_le (de_at (de_var 6 (pv 6)) (de_var 7 (pv 7)) (fun _ _ => rfl)) (de_at (de_var 6 (pv 6)) (de_sub (de_var 7 (pv 7)) de_int) (fun _ _ => rfl)))
 (dss_one (ds_ret (de_tup (da_cons (de_var 5 (pv 5)) (da_cons de_str da_nil)))))
 dss_nil)))
 (dss_cons (ds_if (DW.dt (dw_or (dt_lt (de_at (de_var 6 (pv 6)) de_int (fun _ _ => rfl)) de_int) (dw_one' (dt_ge (de_at (de_var 6 (pv 6)) (de_neg de_int) (fun _ _ => rfl)) (de_len rfl T.n_len (de_var 0 (pv 0)))))))
 (dss_one (ds_ret (de_tup (da_cons (de_var 5 (pv 5)) (da_cons de_str da_nil)))))
 dss_nil)
 (dss_cons (ds_if (dt_val (de_any rfl rfl T.n_any (DL.de (dl_lc (own := [("one", 8)]) rfl sc__law_flaw.nd (di_any (de_var 6 (pv 6))) (blkOk_by (N := N__law_flaw) (sc := defScope s__law_flaw) (by decide +kernel))
 (fun _ _ _ _ _ => (dg_name (i := 8) (pg_name (i := 8) sc__law_flaw.nd rfl (by first | exact .inl rfl | exact .inr rfl)))) (fun _ _ _ _ _ => dts_nil)
 (fun _ _ _ _ _ => (de_inLK (K := K) rfl hr (de_var 8 (pv 8)) (de_var 4 (pv 4)) rfl))))))
 (dss_one (ds_ret (de_tup (da_cons (de_var 5 (pv 5)) (da_cons de_str da_nil)))))
 dss_nil)
 (dss_cons (ds_if (DW.dt (dw_and (dt_gt (de_var 5 (pv 5)) de_int) (dw_one (dt_lt (de_at (de_var 6 (pv 6)) de_int (fun _ _ => rfl)) (de_at (de_at (de_var 2 (pv 2)) (de_sub (de_var 5 (pv 5)) de_int) (fun _ _ => rfl)) de_int (fun _ _ => rfl))))))
 (dss_one (ds_ret (de_tup (da_cons (de_var 5 (pv 5)) (da_cons de_str da_nil)))))
 dss_nil)
 (dss_cons (ds_if (dt_isN (de_call (ok__law_row T) (hr.mono (by decide)) rfl T.g__law_row T.F__law_row.kp T.b__law_row (da_cons (de_var 0 (pv 0)) (da_cons (de_var 6 (pv 6)) (da_cons (de_var 1 (pv 1)) (da_cons (de_var 3 (pv 3)) da_nil))))) de_non)
 (dss_one (ds_ret (de_tup (da_cons (de_var 5 (pv 5)) (da_cons de_str da_nil)))))
 dss_nil)
 (dss_one (ds_setH (i := 4) sc__law_flaw.nd rfl (by first | exact .inl rfl | exact .inr rfl) (de_addB (K := K) rfl (de_var 4 (pv 4)) (de_var 6 (pv 6)))))))))))))
 (dss_cons (ds_if (dt_lt (de_len rfl T.n_len (de_var 4 (pv 4))) (de_len rfl T.n_len (de_var 0 (pv 0))))
 (dss_one (ds_ret (de_tup (da_cons (de_len rfl T.n_len (de_var 2 (pv 2))) (da_cons de_str da_nil)))))
 dss_nil)
 (dss_one (ds_ret de_non)))))⟩
theorem ok_law (T : Tx K mg) {f : Addr} {fd : FuncData} (F : Fun K "law" "law" s_law f fd) : FnOk P w K mg base CX0 6 f fd ["script"] (spD K F_law) :=
  fn_ok (k := 5) F sc_law (by decide) fun cdv A outer s H E hr => ⟨_,
  (dss_cons (ds_for PassesOwn.never rfl (di_r1 rfl T.n_range (da_cons (de_min2 rfl rfl T.n_min (da_cons de_int (da_cons (de_add de_int (de_fdiv (de_len rfl T.n_len (de_var 0 (pv 0))) de_int)) da_nil))) da_nil)) (dg_name (i := 1) (pg_name (i := 1) sc_law.nd rfl (by first | exact .inl rfl | exact .inr rfl)))
 (dss_cons (ds_setH (i := 2) sc_law.nd rfl (by first | exact .inl rfl | exact .inr rfl) (de_at (de_call (ok__law_draw T) (hr.mono (by decide)) rfl T.g__law_draw T.F__law_draw.kp T.b__law_draw (da_cons (de_var 0 (pv 0)) (da_cons (de_add (de_mul de_int (de_var 1 (pv 1))) de_int) (da_cons (DL.de (dl_lst (da_cons de_int da_nil))) da_nil)))) de_int (fun _ _ => rfl)))
 (dss_cons (ds_asgG (de_call (ok__law_pieces T) (hr.mono (by decide)) rfl T.g__law_pieces T.F__law_pieces.kp T.b__law_pieces (da_cons (de_var 0 (pv 0)) (da_cons (de_mul de_int (de_var 1 (pv 1))) (da_cons (de_var 2 (pv 2)) da_nil)))) (dg_tup (K := K) (n := 2) rfl rfl (dgs_cons (dg_name (i := 9) (pg_name (i := 9) sc_law.nd rfl (by first | exact .inl rfl | exact .inr rfl))) (dgs_cons (dg_name (i := 10) (pg_name (i := 10) sc_law.nd rfl (by first | exact .inl rfl | exact .inr rfl))) dgs_nil))))
 (dss_cons (ds_setH (i := 3) sc_law.nd rfl (by first | exact .inl rfl | exact .inr rfl) (de_call (ok__law_draw T) (hr.mono (by decide)) rfl T.g__law_draw T.F__law_draw.kp T.b__law_draw (da_cons (de_var 0 (pv 0)) (da_cons (de_add (de_mul de_int (de_var 1 (pv 1))) de_int) (da_cons (DL.de (dl_lst (da_cons de_int (da_cons de_int (da_cons de_int (da_cons de_int (da_cons de_int da_nil))))))) da_nil)))))
 (dss_cons (ds_treE (i := 4) sc_law.nd rfl (by first | exact .inl rfl | exact .inr rfl) (dte_lst (dta_cons (dte_lst dta_nil) (dta_cons (dte_lst dta_nil) (dta_cons (dte_lst dta_nil) dta_nil)))))
 (dss_cons (ds_for PassesOwn.never rfl (di_r1 rfl T.n_range (da_cons (de_var 2 (pv 2)) da_nil)) (dg_name (i := 5) (pg_name (i := 5) sc_law.nd rfl (by first | exact .inl rfl | exact .inr rfl)))
 (dss_one (ds_app1 (K := K) (i := 4) rfl (pv 4) (de_at (de_var 3 (pv 3)) (de_var 5 (pv 5)) (fun _ _ => rfl)) (de_var 5 (pv 5)) (fun _ _ => rfl))))
 (dss_cons (ds_treS (K := K) (i := 4) (j := 11) (own := [("row", 11)]) rfl hr rfl rfl T.n_sorted sc_law.nd rfl (by first | exact .inl rfl | exact .inr rfl) (de_var 4 (pv 4)) (blkOk_by (N := N_law) (sc := defScope s_law) (by decide +kernel))
 (fun _ _ _ _ _ => (dg_name (i := 11) (pg_name (i := 11) sc_law.nd rfl (by first | exact .inl rfl | exact .inr rfl)))) (fun _ _ _ _ _ => (dts_one (dt_gt (de_lenK (K := K) rfl rfl T.n_len (de_var 11 (pv 11))) de_int))) (fun _ _ _ _ _ => (de_var 11 (pv 11))))
 (dss_cons (ds_setH (i := 6) sc_law.nd rfl (by first | exact .inl rfl | exact .inr rfl) (de_call (ok__law_draw T) (hr.mono (by decide)) rfl T.g__law_draw T.F__law_draw.kp T.b__law_draw (da_cons (de_var 0 (pv 0)) (da_cons (de_add (de_mul de_int (de_var 1 (pv 1))) de_int) (da_cons (DL.de (dl_lst (da_cons de_int (da_cons de_int (da_cons de_int da_nil))))) da_nil)))))
 (dss_cons (ds_if (dt_eq hr (de_at (de_var 6 (pv 6)) de_int (fun _ _ => rfl)) de_int)
 (DSs.frz 4 (dss_one (ds_setH (i := 4) sc_law.nd rfl (by first | exact .inl rfl | exact .inr rfl) (DL.de (dl_revL (K := K) rfl (de_var 4 (pv 4)))))))
 (dss_one (ds_if (DT.scal (DW.dt (dw_and (dt_eq hr (de_at (de_var 6 (pv 6)) de_int (fun _ _ => rfl)) de_int) (dw_one (dt_gt (de_len rfl T.n_len (de_var 4 (pv 4))) de_int)))))
 (dss_one (ds_app1 (K := K) (i := 4) rfl (pv 4) (DE.scal (de_mod (de_at (de_var 6 (pv 6)) de_int (fun _ _ => rfl)) (de_len rfl T.n_len (de_var 4 (pv 4))))) (de_sub (de_at (de_var 6 (pv 6)) de_int (fun _ _ => rfl)) de_int) (fun _ _ => rfl)))
 (dss_one (ds_if (DT.scal (DW.dt (dw_and (dt_eq hr (de_at (de_var 6 (pv 6)) de_int (fun _ _ => rfl)) de_int) (dw_one (dt_gt (de_len rfl T.n_len (de_var 4 (pv 4))) de_int)))))
 (dss_one (ds_putK (i := 4) (pv 4) (de_mod (de_at (de_var 6 (pv 6)) de_int (fun _ _ => rfl)) (de_len rfl T.n_len (de_var 4 (pv 4)))) (dl_revL (K := K) rfl (de_at (de_var 4 (pv 4)) (de_mod (de_at (de_var 6 (pv 6)) de_int (fun _ _ => rfl)) (de_len rfl T.n_len (de_var 4 (pv 4)))) (fun _ _ => rfl)))))
 (dss_one (ds_if (dt_eq hr (de_at (de_var 6 (pv 6)) de_int (fun _ _ => rfl)) de_int)
 (DSs.frz 4 (dss_one (ds_setH (i := 4) sc_law.nd rfl (by first | exact .inl rfl | exact .inr rfl) (DL.de (dl_cat (dl_cat (dl_cutL (de_var 4 (pv 4)) do_none (do_some (de_at (de_var 6 (pv 6)) de_int (fun _ _ => rfl)))) (dl_lst (da_cons (DL.de (dl_lst da_nil)) da_nil))) (dl_cutL (de_var 4 (pv 4)) (do_some (de_at (de_var 6 (pv 6)) de_int (fun _ _ => rfl))) do_none))))))
 (dss_one (ds_if (DT.scal (DW.dt (dw_and (dt_eq hr (de_at (de_var 6 (pv 6)) de_int (fun _ _ => rfl)) de_int) (dw_one (dt_gt (de_len rfl T.n_len (de_var 4 (pv 4))) de_int)))))
 (dss_one (ds_putK (i := 4) (pv 4) (de_mod (de_at (de_var 6 (pv 6)) de_int (fun _ _ => rfl)) (de_len rfl T.n_len (de_var 4 (pv 4)))) (dl_cutL (de_at (de_var 4 (pv 4)) (de_mod (de_at (de_var 6 (pv 6)) de_int (fun _ _ => rfl)) (de_len rfl T.n_len (de_var 4 (pv 4)))) (fun _ _ => rfl)) (do_some de_int) do_none)))
 (dss_one (ds_if (DT.scal (DW.dt (dw_and (dt_eq hr (de_at (de_var 6 (pv 6)) de_int (fun _ _ => rfl)) de_int) (dw_one (dt_gt (de_len rfl T.n_len (de_var 4 (pv 4))) de_int)))))
 (DSs.frz 4 (dss_one (ds_setH (i := 4) sc_law.nd rfl (by first | exact .inl rfl | exact .inr rfl) (de_addB (K := K) rfl (de_var 4 (pv 4)) (DL.de (dl_lst (da_cons (de_at (de_var 4 (pv 4)) (de_mod (de_at (de_var 6 (pv 6)) de_int (fun _ _ => rfl)) (de_len rfl T.n_len (de_var 4 (pv 4)))) (fun _ _ => rfl)) da_nil)))))))
 (dss_one (ds_if (dt_eq hr (de_at (de_var 6 (pv 6)) de_int (fun _ _ => rfl)) de_int)
 (dss_one (ds_setH (i := 4) sc_law.nd rfl (by first | exact .inl rfl | exact .inr rfl) (DL.de (dl_lst (da_cons (DL.de (dl_listRg1 rfl rfl T.n_list rfl T.n_range (de_var 2 (pv 2)))) da_nil)))))
 dss_nil)))))))))))))
 (DSs.frz 4 (dss_cons (ds_setH (i := 7) sc_law.nd rfl (by first | exact .inl rfl | exact .inr rfl) (de_tuple rfl T.n_tuple (DL.de (dl_lc (own := [("row", 11)]) rfl sc_law.nd (di_any (de_var 4 (pv 4))) (blkOk_by (N := N_law) (sc := defScope s_law) (by decide +kernel))
 (fun _ _ _ _ _ => (dg_name (i := 11) (pg_name (i := 11) sc_law.nd rfl (by first | exact .inl rfl | exact .inr rfl)))) (fun _ _ _ _ _ => dts_nil)
 (fun _ _ _ _ _ => (de_tupleK (K := K) rfl rfl T.n_tuple (de_var 11 (pv 11))))))))
 (dss_cons (ds_for PassesOwn.never rfl (di_any (DL.de (dl_lst (da_cons de_bl (da_cons de_bl da_nil))))) (dg_name (i := 8) (pg_name (i := 8) sc_law.nd rfl (by first | exact .inl rfl | exact .inr rfl)))
 (dss_one (ds_if (dt_ne hr (de_callN (n := 3) (kn := "turned") (ok_flaw_of_cutting T) (hr.mono (by decide)) rfl T.g_flaw_of_cutting T.F_flaw_of_cutting.kp T.b_flaw_of_cutting.kbn (da_cons (de_var 9 (pv 9)) (da_cons (de_var 10 (pv 10)) (da_cons (de_var 7 (pv 7)) da_nil))) (de_var 8 (pv 8)) (pk_cons ((de_var 8 (pv 8))).p pk_nil)) (de_call (ok__law_flaw T) (hr.mono (by decide)) rfl T.g__law_flaw T.F__law_flaw.kp T.b__law_flaw (da_cons (de_var 9 (pv 9)) (da_cons (de_var 10 (pv 10)) (da_cons (de_var 7 (pv 7)) (da_cons (de_var 8 (pv 8)) da_nil))))))
 (dss_one (ds_ret de_bl))
 dss_nil)))
 (dss_one (ds_if (dt_ne hr (de_callD (ok_flaw_of_cutting T) (hr.mono (by decide)) rfl T.g_flaw_of_cutting T.F_flaw_of_cutting.kp T.b_flaw_of_cutting.bind T.b_flaw_of_cutting.val (fun _ => .cons (.bl false) .nil) (da_cons (de_var 9 (pv 9)) (da_cons (de_var 10 (pv 10)) (da_cons (de_var 7 (pv 7)) da_nil)))) (de_call (ok__law_flaw T) (hr.mono (by decide)) rfl T.g__law_flaw T.F__law_flaw.kp T.b__law_flaw (da_cons (de_var 9 (pv 9)) (da_cons (de_var 10 (pv 10)) (da_cons (de_var 7 (pv 7)) (da_cons de_bl da_nil))))))
 (dss_one (ds_ret de_bl))
 dss_nil))))))))))))))
 (dss_one (ds_ret de_bl)))⟩
end
end G

namespace C
open PySem DD L2
def rl (t : Bool) (w : Nat) (q : List Pc) : Option Nat := if t = true then ((sidesC q).mergeSort leN).find? (feas q w) else if w < sw q then none else some (mx q 0)
theorem rl_best (t : Bool) (w : Nat) (q : List Pc) : Best t q w (rl t w q) := by
  cases t with
  | true => exact turned_best
  | false =>
    unfold rl
    rw [if_neg Bool.false_ne_true]
    by_cases c : w < sw q
    · rw [if_pos c]
      refine ⟨fun _ a' l' ha h => ?_, fun m hm => nomatch hm⟩
      have := (ch_false.mp h).1
      omega
    · rw [if_neg c]
      refine ⟨(fun h => nomatch h), fun m hm => ?_⟩
      cases hm
      refine ⟨⟨sw q, by omega, ch_false.mpr ⟨(Nat.zero_add _).symm, rfl⟩⟩, fun a' l' _ h => ?_⟩
      have := (ch_false.mp h).2
      omega
theorem row_length_rl {ps : List Pc} {row : List Nat} {w : Nat} {t : Bool} (hr : ∀ k ∈ row, k < ps.length) (hl : row.length ≤ 100) : F_row_length [lsD ps, .tup (row.map natD), natD w, .bl t] = some (optN (rl t w (laidOf ps row))) := by
  obtain ⟨R, h1, h2⟩ := row_length_ok (w := w) (t := t) hr hl
  rw [h1, h2.one (rl_best t w _)]
abbrev Asc (r : List Nat) : Prop := r.Pairwise (· < ·)
inductive Cut (len : List Nat → Option Nat) : List Nat → List (List Nat) → Nat → Prop
  | nil : Cut len [] [] 0
  | cons {x : Nat} {rest others : List Nat} {l : Nat} {C : List (List Nat)} {T : Nat} : others.Sublist rest → len (x :: others) = some l → Cut len (rest.filter fun n => decide (n ∉ others)) C T → Cut len (x :: rest) ((x :: others) :: C) (l + T)
def tot (len : List Nat → Option Nat) (F : List (List Nat)) : Nat := (F.map fun r => (len r).getD 0).sum
theorem asc_sub : ∀ {ns r : List Nat}, Asc r → Asc ns → (∀ x ∈ r, x ∈ ns) → r.Sublist ns
  | [], [], _, _, _ => .slnil
  | [], x :: r, _, _, h => by cases h x List.mem_cons_self
  | y :: ns, [], _, _, _ => List.nil_sublist _
  | y :: ns, x :: r, hr, hn, h => by
    have hr' := List.pairwise_cons.mp hr
    have hn' := List.pairwise_cons.mp hn
    by_cases e : x = y
    · subst e
      refine .cons_cons _ (asc_sub hr'.2 hn'.2 fun z hz => ?_)
      rcases List.mem_cons.mp (h z (List.mem_cons_of_mem _ hz)) with e | e
      · have := hr'.1 z hz
        omega
      · exact e
    · have hx : x ∈ ns := (List.mem_cons.mp (h x List.mem_cons_self)).resolve_left e
      have hy := hn'.1 x hx
      refine .cons _ (asc_sub hr hn'.2 fun z hz => ?_)
      rcases List.mem_cons.mp (h z hz) with e2 | e2
      · rcases List.mem_cons.mp hz with e3 | e3
        · omega
        · have := hr'.1 z e3
          omega
      · exact e2
theorem asc_nodup {r : List Nat} (h : Asc r) : r.Nodup := List.Pairwise.imp (fun h => Nat.ne_of_lt h) h
theorem perm_filter_out {A G R : List Nat} (h : (A ++ G).Perm R) (nd : R.Nodup) : G.Perm (R.filter fun n => decide (n ∉ A)) := by
  have nd2 : (A ++ G).Nodup := h.nodup_iff.mpr nd
  have e : (A ++ G).filter (fun n => decide (n ∉ A)) = G := by
    rw [List.filter_append]
    have e1 : A.filter (fun n => decide (n ∉ A)) = [] := List.filter_eq_nil_iff.mpr fun x hx => by
      rw [decide_eq_true_eq]
      exact fun z => z hx
    have e2 : G.filter (fun n => decide (n ∉ A)) = G := List.filter_eq_self.mpr fun x hx => by
      rw [decide_eq_true_eq]
      exact fun z => (List.nodup_append.mp nd2).2.2 x z x hx rfl
    rw [e1, e2, List.nil_append]
  rw [← e]
  exact h.filter _
theorem sum_permC {xs ys : List Nat} (h : xs.Perm ys) : xs.sum = ys.sum := by
  induction h with
  | nil => rfl
  | cons x _ ih => rw [List.sum_cons, List.sum_cons, ih]
  | swap x y l => simp only [List.sum_cons]; omega
  | trans _ _ h1 h2 => exact h1.trans h2
theorem tot_perm {len : List Nat → Option Nat} {F G : List (List Nat)} (h : F.Perm G) : tot len F = tot len G := sum_permC (h.map _)
structure Cover (len : List Nat → Option Nat) (ns : List Nat) (F : List (List Nat)) : Prop where
  row : ∀ r ∈ F, r ≠ [] ∧ Asc r ∧ (len r).isSome = true
  all : F.flatten.Perm ns
theorem cut_of_cover (len : List Nat → Option Nat) : ∀ (n : Nat) {ns : List Nat} {F : List (List Nat)}, ns.length ≤ n → Asc ns → Cover len ns F → ∃ C, Cut len ns C (tot len F)
  | n, [], F, _, _, h => by
    have e : F = [] := by
      cases F with
      | nil => rfl
      | cons r F =>
        have hr := (h.row r List.mem_cons_self).1
        have := h.all.length_eq
        rw [List.flatten_cons, List.length_append, List.length_nil] at this
        exact absurd (List.length_eq_zero_iff.mp (by omega)) hr
    subst e
    exact ⟨[], .nil⟩
  | 0, x :: rest, F, hn, _, _ => by
    rw [List.length_cons] at hn
    omega
  | n + 1, x :: rest, F, hn, ha, h => by
    have ha' := List.pairwise_cons.mp ha
    obtain ⟨r, hr, hx⟩ := List.mem_flatten.mp (h.all.mem_iff.mpr List.mem_cons_self)
    obtain ⟨h1, h2, h3⟩ := h.row r hr
    have pf := List.perm_cons_erase hr
    have pall : (r ++ (F.erase r).flatten).Perm (x :: rest) := by
      have : (r :: F.erase r).flatten.Perm F.flatten := pf.symm.flatten
      exact this.trans h.all
    obtain ⟨y, others, rfl⟩ : ∃ y others, r = y :: others := by
      cases r with
      | nil => exact absurd rfl h1
      | cons y o => exact ⟨y, o, rfl⟩
    have h2' := List.pairwise_cons.mp h2
    have inn : ∀ z ∈ y :: others, z ∈ x :: rest := fun z hz => pall.mem_iff.mp (List.mem_append_left _ hz)
    have exy : y = x := by
      have a1 : x ≤ y := by
        rcases List.mem_cons.mp (inn y List.mem_cons_self) with e | e
        · omega
        · have := ha'.1 y e
          omega
      have a2 : y ≤ x := by
        rcases List.mem_cons.mp hx with e | e
        · omega
        · have := h2'.1 x e
          omega
      omega
    subst exy
    have osub : others.Sublist rest := asc_sub h2'.2 ha'.2 fun z hz => by
      rcases List.mem_cons.mp (inn z (List.mem_cons_of_mem _ hz)) with e | e
      · have := h2'.1 z hz
        omega
      · exact e
    have prest : (others ++ (F.erase (y :: others)).flatten).Perm rest := List.Perm.cons_inv pall
    have pf2 := perm_filter_out prest (asc_nodup ha'.2)
    have hl : (rest.filter fun n => decide (n ∉ others)).length ≤ n := by
      have := List.length_filter_le (fun n => decide (n ∉ others)) rest
      rw [List.length_cons] at hn
      omega
    obtain ⟨C, hC⟩ := cut_of_cover len n hl (ha'.2.filter _) ⟨fun r hr => h.row r (List.mem_of_mem_erase hr), pf2⟩
    obtain ⟨l, el⟩ := Option.isSome_iff_exists.mp h3
    refine ⟨(y :: others) :: C, ?_⟩
    have e : tot len F = l + tot len (F.erase (y :: others)) := by
      rw [tot_perm pf]
      unfold tot
      rw [List.map_cons, List.sum_cons, el] <;> rfl
    rw [e]
    exact .cons osub el hC
structure CutP (len : List Nat → Option Nat) (ns : List Nat) (C : List (List Nat)) (T : Nat) : Prop where
  cov : Cover len ns C
  tot_ : T = tot len C
  heads : C.Pairwise fun r s => r.headD 0 < s.headD 0
abbrev Tr3 := Nat × Nat × List (List Nat)
structure Opt (len : List Nat → Option Nat) (ns : List Nat) (B : Tr3) : Prop where
  cut : Cut len ns B.2.2 B.1
  least : ∀ C T, Cut len ns C T → B.1 ≤ T
theorem Opt.le {len : List Nat → Option Nat} {ns : List Nat} {B : Tr3} (o : Opt len ns B) (ha : Asc ns) {F : List (List Nat)} (h : Cover len ns F) : B.1 ≤ tot len F := by
  obtain ⟨C, hC⟩ := cut_of_cover len _ (Nat.le_refl _) ha h
  exact o.least _ _ hC
end C

namespace C
open PySem DD L2
theorem cut_toT {α : Type} (f : α → D) (ps : List α) (k : Nat) : cutD (ps.map f) none (some (k : Int)) = (ps.take k).map f := by
  unfold cutD
  rw [HT.sIx_none, HT.sIx_nat, List.drop_zero, Nat.sub_zero, List.length_map, ← List.map_take]
  by_cases h : k ≤ ps.length
  · rw [Nat.min_eq_left h]
  · rw [Nat.min_eq_right (by omega), List.take_length, List.take_of_length_le (by omega)]
theorem cut_fromT {α : Type} (f : α → D) (ps : List α) (k : Nat) : cutD (ps.map f) (some (k : Int)) none = (ps.drop k).map f := by
  unfold cutD
  rw [HT.sIx_none, HT.sIx_nat, List.length_map, ← List.map_drop, ← List.map_take]
  by_cases h : k ≤ ps.length
  · rw [Nat.min_eq_left h, List.take_of_length_le (by rw [List.length_drop]; omega)]
  · rw [Nat.min_eq_right (by omega), Nat.sub_self, List.take_zero, List.drop_eq_nil_of_le (by omega)]
end C

namespace G
open PySem DD C L2
def ex1 (t : Bool) (p s : Pc) : List Pc := (s.1 + p.1, max s.2 p.2) :: (if t = true then [(s.1 + p.2, max s.2 p.1)] else [])
theorem ex1_len (t : Bool) (p s : Pc) : (ex1 t p s).length ≤ 2 := by
  unfold ex1
  cases t
  · exact Nat.le_succ 1
  · exact Nat.le_refl 2
theorem flat_le {t : Bool} {p : Pc} : ∀ S : List Pc, (S.flatMap (ex1 t p)).length ≤ 2 * S.length
  | [] => Nat.le_refl _
  | s :: S => by
    have a := ex1_len t p s
    have b := flat_le (t := t) (p := p) S
    have e : (s :: S).length = S.length + 1 := rfl
    rw [List.flatMap_cons, List.length_append, e]
    omega
def stepS (t : Bool) (w : Nat) (p : Pc) (S : List Pc) : List Pc := (S.flatMap (ex1 t p)).filter fun s => decide (s.1 ≤ w)
theorem step_ch {t : Bool} {w : Nat} {p : Pc} {S qs : List Pc} {a' l' : Nat} (ha : a' ≤ w) : (∃ s ∈ stepS t w p S, Ch t qs s.1 s.2 a' l') ↔ ∃ s ∈ S, Ch t (p :: qs) s.1 s.2 a' l' := by
  constructor
  · rintro ⟨s', hs, h⟩
    obtain ⟨s, hs1, hs2⟩ := List.mem_flatMap.mp (List.mem_filter.mp hs).1
    refine ⟨s, hs1, ?_⟩
    unfold ex1 at hs2
    rcases List.mem_cons.mp hs2 with rfl | hs2
    · exact .inl h
    · cases t with
      | false => cases hs2
      | true =>
        rw [if_pos rfl] at hs2
        rw [List.mem_singleton.mp hs2] at h
        exact .inr ⟨rfl, h⟩
  · rintro ⟨s, hs, h⟩
    rcases h with h | ⟨rfl, h⟩
    · refine ⟨(s.1 + p.1, max s.2 p.2), List.mem_filter.mpr ⟨List.mem_flatMap.mpr ⟨s, hs, List.mem_cons_self⟩, ?_⟩, h⟩
      have := (ch_mono h).1
      exact decide_eq_true (by show s.1 + p.1 ≤ w; omega)
    · refine ⟨(s.1 + p.2, max s.2 p.1), List.mem_filter.mpr ⟨List.mem_flatMap.mpr ⟨s, hs, List.mem_cons_of_mem _ ?_⟩, ?_⟩, h⟩
      · rw [if_pos rfl]; exact List.mem_cons_self
      · have := (ch_mono h).1
        exact decide_eq_true (by show s.1 + p.2 ≤ w; omega)
theorem ch_nil {t : Bool} {S : List Pc} {a' l' : Nat} : (∃ s ∈ S, Ch t [] s.1 s.2 a' l') ↔ (a', l') ∈ S := by
  constructor
  · rintro ⟨s, hs, h1, h2⟩
    rw [← h1, ← h2]
    exact hs
  · exact fun h => ⟨_, h, rfl, rfl⟩
theorem law_row_ok {ps : List Pc} {row : List Nat} {w : Nat} {t : Bool} (hr : ∀ k ∈ row, k < ps.length) (hl : row.length ≤ 5) : ∃ R, F__law_row [lsD ps, .lst (row.map natD), natD w, .bl t] = some (optN R) ∧ Best t (laidOf ps row) w R := by
  let L := laidOf ps row
  have lL : L.length = row.length := List.length_map _
  let E : Sl → Sl → Sl → Sl → Sl → Sl → En := fun s4 s5 s6 s7 s8 s9 => [.dat (lsD ps), .dat (.lst (row.map natD)), .dat (natD w), .dat (.bl t), s4, s5, s6, s7, s8, s9, .no]
  let a1 : En → Option Out := sApp 7 (dTup (aCons (d2 gAdd (dVar 8) (d2 gIx (d2 gIx (dVar 0) (dVar 6)) (dC (.int 0)))) (aCons (dCB gMax2 (aCons (dVar 9) (aCons (d2 gIx (d2 gIx (dVar 0) (dVar 6)) (dC (.int 1))) aNil))) aNil)))
  let a2 : En → Option Out := sIf (tBl (dVar 3)) (sApp 7 (dTup (aCons (d2 gAdd (dVar 8) (d2 gIx (d2 gIx (dVar 0) (dVar 6)) (dC (.int 1)))) (aCons (dCB gMax2 (aCons (dVar 9) (aCons (d2 gIx (d2 gIx (dVar 0) (dVar 6)) (dC (.int 0))) aNil))) aNil)))) sNil
  let b5 : En → Option Out := fun en => (sSet 5 (dL (lLc (iAny (dVar 7)) (gSet 10) (tBl (d2 gLe (d2 gIx (dVar 10) (dC (.int 0))) (dVar 2))) (dVar 10) [10]))) (frz 7 en)
  let tg : D → En → Option En := gTupD (gsCons (gSet 8) (gsCons (gSet 9) gsNil)) 2
  obtain ⟨en', g1, S, s6, s7, s8, s9, rfl, sl, hw, hc⟩ := for_of (fi := iAny (dVar 1)) (gd := gSet 6) (g := sSeq (sOwn 7 (lLst aNil)) (sSeq (sFor (iAny (dVar 5)) tg (sSeq a1 a2)) b5))
    (en := E (.dat .non) (.dat (lsD [(0, 0)])) .no .no .no .no) row natD rfl
    (fun i en => ∃ S s6 s7 s8 s9, en = E (.dat .non) (.dat (lsD S)) s6 s7 s8 s9 ∧ S.length ≤ 2 ^ i ∧ (∀ s ∈ S, s.1 ≤ w) ∧ ∀ a' l', a' ≤ w → ((∃ s ∈ S, Ch t (L.drop i) s.1 s.2 a' l') ↔ Ch t L 0 0 a' l'))
    ⟨[(0, 0)], _, _, _, _, rfl, Nat.le_refl _, fun s hs => by rw [List.mem_singleton.mp hs]; exact Nat.zero_le _, fun a' l' _ => by
      rw [List.drop_zero]
      exact ⟨fun ⟨s, hs, h⟩ => by rw [List.mem_singleton.mp hs] at h; exact h, fun h => ⟨(0, 0), List.mem_cons_self, h⟩⟩⟩ (fun i k en hk hI => by
      obtain ⟨S, s6, s7, s8, s9, rfl, sl, hw, hc⟩ := hI
      have hi := (List.getElem?_eq_some_iff.mp hk).1
      have hkm : k ∈ row := mem_at hk
      have hk2 := hr k hkm
      let p : Pc := ps.getD k (0, 0)
      have pw : 2 ^ i ≤ 16 := Nat.pow_le_pow_right (by decide) (show i ≤ 4 by omega)
      have hd : L.drop i = p :: L.drop (i + 1) := by
        have hiL : i < L.length := by rw [lL]; exact hi
        rw [List.drop_eq_getElem_cons hiL]
        congr 1
        have e : L[i]? = some (ps.getD k (0, 0)) := by
          show (row.map _)[i]? = _
          rw [List.getElem?_map, hk] <;> rfl
        rw [List.getElem?_eq_getElem hiL] at e
        exact Option.some.inj e
      have pk : ∀ s4 s5 s7 s8 s9, d2 gIx (dVar 0) (dVar 6) (E s4 s5 (.dat (natD k)) s7 s8 s9) = some (C.prD p) := fun _ _ _ _ _ => d2_of rfl rfl (at_natL C.prD ps (0, 0) hk2)
      obtain ⟨en', g2, u8, u9, rfl⟩ := for_of (fi := iAny (dVar 5)) (gd := tg) (g := sSeq a1 a2) (en := E (.dat .non) (.dat (lsD S)) (.dat (natD k)) (.own []) s8 s9) S C.prD rfl
        (fun j en => ∃ u8 u9, en = E (.dat .non) (.dat (lsD S)) (.dat (natD k)) (.own (((S.take j).flatMap (ex1 t p)).map C.prD)) u8 u9) ⟨_, _, rfl⟩ (fun j s en hs hI => by
          obtain ⟨u8, u9, rfl⟩ := hI
          have hj := (List.getElem?_eq_some_iff.mp hs).1
          let M := (S.take j).flatMap (ex1 t p)
          have hM : M.length ≤ 100 := by
            have := flat_le (t := t) (p := p) (S.take j)
            rw [List.length_take] at this
            show ((S.take j).flatMap (ex1 t p)).length ≤ 100
            omega
          have e1 : a1 (E (.dat .non) (.dat (lsD S)) (.dat (natD k)) (.own (M.map C.prD)) (.dat (natD s.1)) (.dat (natD s.2))) = some (.nx (E (.dat .non) (.dat (lsD S)) (.dat (natD k)) (.own ((M ++ [(s.1 + p.1, max s.2 p.2)]).map C.prD)) (.dat (natD s.1)) (.dat (natD s.2)))) := by
            refine (app_of (d := C.prD (s.1 + p.1, max s.2 p.2)) (tup_of (a_two (d2_of rfl (d2_of (pk _ _ _ _ _) rfl rfl) rfl) (cb_of (a_two rfl (d2_of (pk _ _ _ _ _) rfl rfl)) (max_natD s.2 p.2)))) rfl (by rw [List.length_map]; omega)).trans ?_
            rw [List.map_append] <;> rfl
          rw [take_snoc hs, List.flatMap_append, List.flatMap_cons, List.flatMap_nil, List.append_nil]
          refine ⟨E (.dat .non) (.dat (lsD S)) (.dat (natD k)) (.own (M.map C.prD)) (.dat (natD s.1)) (.dat (natD s.2)), E (.dat .non) (.dat (lsD S)) (.dat (natD k)) (.own ((M ++ ex1 t p s).map C.prD)) (.dat (natD s.1)) (.dat (natD s.2)), rfl, .inl (seq e1 ?_), _, _, rfl⟩
          show a2 _ = some (.nx (E (.dat .non) (.dat (lsD S)) (.dat (natD k)) (.own ((M ++ ((s.1 + p.1, max s.2 p.2) :: (if t = true then [(s.1 + p.2, max s.2 p.1)] else []))).map C.prD)) (.dat (natD s.1)) (.dat (natD s.2))))
          have tt : ∀ s7, tBl (dVar 3) (E (.dat .non) (.dat (lsD S)) (.dat (natD k)) s7 (.dat (natD s.1)) (.dat (natD s.2))) = some t := fun _ => bl_of rfl
          by_cases ht : t = true
          · rw [if_pos ht]
            refine sifT ((tt _).trans (congrArg some ht)) ?_
            refine (app_of (d := C.prD (s.1 + p.2, max s.2 p.1)) (tup_of (a_two (d2_of rfl (d2_of (pk _ _ _ _ _) rfl rfl) rfl) (cb_of (a_two rfl (d2_of (pk _ _ _ _ _) rfl rfl)) (max_natD s.2 p.1)))) rfl (by rw [List.length_map, List.length_append]; show _ + 1 ≤ 1000; omega)).trans ?_
            have e : (M ++ [(s.1 + p.1, max s.2 p.2)]).map C.prD ++ [C.prD (s.1 + p.2, max s.2 p.1)] = (M ++ [(s.1 + p.1, max s.2 p.2), (s.1 + p.2, max s.2 p.1)]).map C.prD := by
              rw [List.map_append, List.map_append, List.append_assoc] <;> rfl
            rw [← e] <;> rfl
          · rw [if_neg ht]
            exact sifF ((tt _).trans (congrArg some (by cases t <;> first | rfl | exact absurd rfl ht))) rfl)
      rw [List.take_length] at g2
      let S' := stepS t w p S
      have fl := flat_le (t := t) (p := p) S
      have e5 : b5 (E (.dat .non) (.dat (lsD S)) (.dat (natD k)) (.own ((S.flatMap (ex1 t p)).map C.prD)) u8 u9) = some (.nx (E (.dat .non) (.dat (lsD S')) (.dat (natD k)) (.dat (lsD (S.flatMap (ex1 t p)))) u8 u9)) := by
        show sSet 5 _ (E (.dat .non) (.dat (lsD S)) (.dat (natD k)) (.dat (lsD (S.flatMap (ex1 t p)))) u8 u9) = _
        exact set_of (dL_of (lLc_ft C.prD C.prD (fun s => decide (s.1 ≤ w)) (S.flatMap (ex1 t p)) rfl (by omega) fun s _ => ⟨_, rfl, bl_of (d2_of (x := natD s.1) rfl rfl (le_nat _ _)), rfl⟩))
      refine ⟨_, _, rfl, .inl (seq rfl (seq g2 e5)), S', _, _, _, _, rfl, ?_, fun s hs => of_decide_eq_true (List.mem_filter.mp hs).2, fun a' l' ha => ?_⟩
      · have : S'.length ≤ (S.flatMap (ex1 t p)).length := List.length_filter_le _ _
        rw [Nat.pow_succ]
        omega
      · rw [← hc a' l' ha, hd]
        exact step_ch ha)
  have hc : ∀ a' l', a' ≤ w → ((a', l') ∈ S ↔ Ch t L 0 0 a' l') := fun a' l' ha => by
    have := hc a' l' ha
    rw [List.drop_eq_nil_of_le (by rw [lL]; exact Nat.le_refl _), ch_nil] at this
    exact this
  have pw : 2 ^ row.length ≤ 32 := Nat.pow_le_pow_right (by decide) (show row.length ≤ 5 from hl)
  let tb : En → Option Bool := tOr2 (tBl (d2 gIsN (dVar 4) (dC .non))) (tBl (d2 gLt (dVar 9) (dVar 4)))
  obtain ⟨en', g2, R, u8, u9, rfl, r1, r2⟩ := for_of (fi := iAny (dVar 5)) (gd := tg) (g := sIf tb (sSet 4 (dVar 9)) sNil) (en := E (.dat .non) (.dat (lsD S)) s6 s7 s8 s9) S C.prD rfl
    (fun j en => ∃ R u8 u9, en = E (.dat (optN R)) (.dat (lsD S)) s6 s7 u8 u9 ∧ (R = none → S.take j = []) ∧ ∀ m, R = some m → (∃ s ∈ S.take j, s.2 = m) ∧ ∀ s ∈ S.take j, m ≤ s.2) ⟨none, _, _, rfl, fun _ => rfl, fun m hm => nomatch hm⟩ (fun j s en hs hI => by
      obtain ⟨R, u8, u9, rfl, r1, r2⟩ := hI
      let E' : En := E (.dat (optN R)) (.dat (lsD S)) s6 s7 (.dat (natD s.1)) (.dat (natD s.2))
      rw [take_snoc hs]
      cases R with
      | none =>
        have e := r1 rfl
        have t1 : tb E' = some true := or_T rfl
        refine ⟨E', _, rfl, .inl (sifT t1 rfl), some s.2, _, _, rfl, (fun h => nomatch h), fun m hm => ?_⟩
        cases hm
        rw [e]
        exact ⟨⟨s, List.mem_cons_self, rfl⟩, fun q hq => by rw [List.mem_singleton.mp hq]; exact Nat.le_refl _⟩
      | some n =>
        obtain ⟨⟨q, hq, hq2⟩, h3⟩ := r2 n rfl
        have t1 : tb E' = some (decide (s.2 < n)) := or_F rfl (bl_of (d2_of rfl rfl (lt_nat s.2 n)))
        by_cases c : s.2 < n
        · rw [decide_eq_true c] at t1
          refine ⟨E', _, rfl, .inl (sifT t1 rfl), some s.2, _, _, rfl, (fun h => nomatch h), fun m hm => ?_⟩
          cases hm
          refine ⟨⟨s, List.mem_append_right _ List.mem_cons_self, rfl⟩, fun z hz => ?_⟩
          rcases List.mem_append.mp hz with hz | hz
          · have := h3 z hz
            omega
          · rw [List.mem_singleton.mp hz]; exact Nat.le_refl _
        · rw [decide_eq_false c] at t1
          refine ⟨E', _, rfl, .inl (sifF t1 rfl), some n, _, _, rfl, (fun h => nomatch h), fun m hm => ?_⟩
          cases hm
          refine ⟨⟨q, List.mem_append_left _ hq, hq2⟩, fun z hz => ?_⟩
          rcases List.mem_append.mp hz with hz | hz
          · exact h3 z hz
          · rw [List.mem_singleton.mp hz]; omega)
  rw [List.take_length] at r1 r2
  refine ⟨R, run_rt rfl (seq rfl (seq rfl (seq g1 (seq g2 rfl)))), ⟨fun h a' l' ha hch => ?_, fun m hm => ?_⟩⟩
  · have := (hc a' l' ha).mpr hch
    rw [r1 h] at this
    cases this
  · obtain ⟨⟨s, hs, e⟩, h3⟩ := r2 m hm
    refine ⟨⟨s.1, hw s hs, (hc s.1 m (hw s hs)).mp (by rw [← e]; exact hs)⟩, fun a' l' ha hch => h3 (a', l') ((hc a' l' ha).mpr hch)⟩
end G

namespace G
open PySem DD C L2
abbrev Rw := List Int
def rowI (r : Rw) : D := .tup (r.map D.int)
def cutI (X : List Rw) : D := .tup (X.map rowI)
theorem rl_law {P : List Pc} {W : Nat} {t : Bool} {row : List Nat} (hr : ∀ k ∈ row, k < P.length) (hl : row.length ≤ 5) : F__law_row [lsD P, .lst (row.map natD), natD W, .bl t] = some (optN (rl t W (laidOf P row))) := by
  obtain ⟨R, h1, h2⟩ := law_row_ok (ps := P) (row := row) (w := W) (t := t) hr hl
  rw [h1, h2.one (rl_best t W _)]
theorem for_first {gd : D → En → Option En} {g : En → Option Out} (I : Nat → En → Prop) (b : Nat → Bool) (val : Nat → D) (n : Nat)
    (H : ∀ k < n, (∀ j < k, b j = false) → ∀ en, I k en → ∃ en1, gd (natD k) en = some en1 ∧ (if b k = true then g en1 = some (.rt (val k)) else ∃ en2, g en1 = some (.nx en2) ∧ I (k + 1) en2)) :
    ∀ (m k : Nat) (en : En), k + m = n → (∀ j < k, b j = false) → I k en → (∃ j, j < n ∧ b j = true ∧ (∀ i < j, b i = false) ∧ forGo gd g ((List.range' k m).map natD) en = some (.rt (val j))) ∨ ((∀ j < n, b j = false) ∧ ∃ en', forGo gd g ((List.range' k m).map natD) en = some (.nx en') ∧ I n en')
  | 0, k, en, e, hb, hI => by
    have : k = n := by omega
    subst this
    exact .inr ⟨hb, en, rfl, hI⟩
  | m + 1, k, en, e, hb, hI => by
    obtain ⟨en1, h1, h2⟩ := H k (by omega) hb en hI
    have e0 : forGo gd g ((List.range' k (m + 1)).map natD) en = (g en1).bind fun
        | .nx en2 => forGo gd g ((List.range' (k + 1) m).map natD) en2
        | .ct en2 => forGo gd g ((List.range' (k + 1) m).map natD) en2
        | .bk en2 => some (.nx en2)
        | .rt v => some (.rt v)
        | .rm t en2 => some (.rm t en2) := by
      show (gd (natD k) en).bind _ = _
      rw [h1] <;> rfl
    rw [e0]
    cases c : b k with
    | true =>
      rw [c, if_pos rfl] at h2
      rw [h2]
      exact .inl ⟨k, by omega, c, hb, rfl⟩
    | false =>
      rw [c, if_neg Bool.false_ne_true] at h2
      obtain ⟨en2, h2, h3⟩ := h2
      rw [h2]
      exact for_first I b val n H m (k + 1) en2 (by omega) (fun j hj => by
        by_cases q : j = k
        · rw [q]; exact c
        · exact hb j (by omega)) h3
def e2 (r : Rw) : Bool := (r.zip (r.drop 1)).any fun p => decide (p.2 ≤ p.1)
def e3 (n : Nat) (r : Rw) : Bool := decide (r.headD 0 < 0) || decide ((n : Int) ≤ r.getLastD 0)
def e4 (pre : List Rw) (r : Rw) : Bool := r.any fun n => decide (n ∈ pre.flatten)
def e5 (X : List Rw) (k : Nat) (r : Rw) : Bool := decide (0 < k) && decide (r.headD 0 < (X.getD (k - 1) []).headD 0)
def natR (r : Rw) : List Nat := r.map Int.toNat
def e6 (P : List Pc) (W : Nat) (t : Bool) (r : Rw) : Bool := !(rl t W (laidOf P (natR r))).isSome
def vd (P : List Pc) (W : Nat) (t : Bool) (X : List Rw) (k : Nat) : D :=
  let r := X.getD k []
  if r.isEmpty = true then .str "empty row" else if e2 r = true then .str "not ascending" else if e3 P.length r = true then .str "no such piece" else if e4 (X.take k) r = true then .str "laid twice" else if e5 X k r = true then .str "rows out of order" else if e6 P W t r = true then .str "does not fit" else .non
def isN : D → Bool
  | .non => true
  | _ => false
theorem last_app (q : Rw) (w : Int) : (q ++ [w]).getLastD 0 = w := by simp [List.getLastD_eq_getLast?]
theorem head_int (x : Int) (o : Rw) : gIx (rowI (x :: o)) (.int 0) = some (.int x) := at_nat (fun z : Int => D.int z) (x :: o) 0 (i := 0) (Nat.succ_pos _)
theorem asc_ofE2 : ∀ {r : Rw}, e2 r = false → r.Pairwise (· < ·)
  | [], _ => .nil
  | [x], _ => List.pairwise_cons.mpr ⟨fun _ h => (nomatch h), .nil⟩
  | x :: y :: r, h => by
    have h : (decide (y ≤ x) || e2 (y :: r)) = false := h
    rw [Bool.or_eq_false_iff, decide_eq_false_iff_not] at h
    have ih := asc_ofE2 h.2
    refine List.pairwise_cons.mpr ⟨fun z hz => ?_, ih⟩
    rcases List.mem_cons.mp hz with rfl | hz
    · omega
    · have := (List.pairwise_cons.mp ih).1 z hz
      omega
theorem e2_ix : ∀ r : Rw, e2 r = (List.range (r.length - 1)).any fun j => decide (r.getD (j + 1) 0 ≤ r.getD j 0)
  | [] => rfl
  | [x] => rfl
  | x :: y :: r => by
    have ih := e2_ix (y :: r)
    have e : e2 (x :: y :: r) = (decide (y ≤ x) || e2 (y :: r)) := rfl
    rw [e, ih]
    show _ = (List.range (r.length + 1)).any _
    rw [List.range_succ_eq_map, List.any_cons, List.any_map] <;> rfl
theorem in_rangeR {n : Nat} {r : Rw} (h2 : e2 r = false) (h3 : e3 n r = false) : ∀ z ∈ r, 0 ≤ z ∧ z < n := by
  have a := asc_ofE2 h2
  unfold e3 at h3
  rw [Bool.or_eq_false_iff, decide_eq_false_iff_not, decide_eq_false_iff_not] at h3
  obtain ⟨h3, h4⟩ := h3
  intro z hz
  constructor
  · cases r with
    | nil => cases hz
    | cons x o =>
      have h3 : ¬ x < 0 := h3
      rcases List.mem_cons.mp hz with rfl | hz
      · omega
      · have := (List.pairwise_cons.mp a).1 z hz
        omega
  · obtain ⟨q, w, e⟩ : ∃ q w, r = q ++ [w] := ⟨r.dropLast, r.getLast (fun e => by rw [e] at hz; cases hz), (List.dropLast_concat_getLast _).symm⟩
    have el : r.getLastD 0 = w := by rw [e, last_app]
    rw [el] at h4
    rw [e] at hz a
    rcases List.mem_append.mp hz with h | h
    · have := (List.pairwise_append.mp a).2.2 z h w List.mem_cons_self
      omega
    · rw [List.mem_singleton.mp h]
      omega
theorem nat_back {n : Nat} {r : Rw} (h : ∀ z ∈ r, 0 ≤ z ∧ z < (n : Int)) : r.map D.int = (natR r).map natD := by
  unfold natR
  rw [List.map_map]
  refine List.map_congr_left fun z hz => ?_
  show D.int z = D.int ((z.toNat : Nat) : Int)
  have := (h z hz).1
  congr 1
  omega
theorem nat_lt {n : Nat} {r : Rw} (h : ∀ z ∈ r, 0 ≤ z ∧ z < (n : Int)) : ∀ k ∈ natR r, k < n := fun k hk => by
  obtain ⟨z, hz, rfl⟩ := List.mem_map.mp hk
  have := h z hz
  omega
theorem len_asc : ∀ {n : Nat} {r : Rw} (lo : Int), r.Pairwise (· < ·) → (∀ z ∈ r, lo ≤ z ∧ z < lo + (n : Int)) → r.length ≤ n
  | n, [], _, _, _ => Nat.zero_le _
  | 0, x :: r, lo, _, h => by
    have := h x List.mem_cons_self
    omega
  | n + 1, x :: r, lo, a, h => by
    have a' := List.pairwise_cons.mp a
    have := len_asc (n := n) (lo + 1) a'.2 fun z hz => by
      have h1 := a'.1 z hz
      have h2 := h x List.mem_cons_self
      have h3 := h z (List.mem_cons_of_mem _ hz)
      omega
    rw [List.length_cons]
    omega
theorem atI_int {r : Rw} {j : Nat} (h : j < r.length) : atI (r.map D.int) (j : Int) = some (.int (r.getD j 0)) := by
  have := at_nat (fun z : Int => D.int z) r 0 h
  exact this
theorem last_int {x : Int} {o : Rw} : atI ((x :: o).map D.int) (-1) = some (.int ((x :: o).getLastD 0)) := by
  obtain ⟨q, w, e⟩ : ∃ q w, (x :: o) = q ++ [w] := ⟨(x :: o).dropLast, (x :: o).getLast (fun z => nomatch z), (List.dropLast_concat_getLast _).symm⟩
  rw [e, List.map_append]
  rw [last_app]
  exact L2.atI_last _ _
theorem eqv_int (x y : Int) : PyData.eqv (py (.int x)) (py (.int y)) = decide (x = y) := by
  have := eq_ints x y
  unfold gEq at this
  rw [if_pos ⟨deep_int, deep_int⟩] at this
  exact D.bl.inj (Option.some.inj this)
theorem in_seen (n : Int) (s : Rw) : gInL (.int n) (.lst (s.map D.int)) = some (.bl (decide (n ∈ s))) := in_list D.int (fun _ => deep_int) eqv_int n s
theorem in_rowI (n : Int) (s : Rw) : gInA (.int n) (rowI s) = some (.bl (decide (n ∈ s))) := by
  have e : inV (V.int n) ((s.map D.int).map D.v) = decide (n ∈ s) := by
    unfold inV
    rw [List.map_map, List.any_map]
    refine Bool.eq_iff_iff.mpr ?_
    rw [List.any_eq_true, decide_eq_true_eq]
    constructor
    · rintro ⟨y, hy, h⟩
      have h : (y == n) = true := h
      rw [beq_iff_eq] at h
      rw [← h]
      exact hy
    · intro h
      refine ⟨n, h, ?_⟩
      show (n == n) = true
      rw [beq_iff_eq]
  have f : (s.map D.int).all D.flat = true := List.all_eq_true.mpr fun d hd => by
    obtain ⟨z, _, rfl⟩ := List.mem_map.mp hd
    rfl
  show (none : Option D).or (if (D.int n).flat = true ∧ (s.map D.int).all D.flat = true then some (.bl (inV (V.int n) ((s.map D.int).map D.v))) else none) = _
  rw [if_pos ⟨rfl, f⟩, e] <;> rfl
theorem getD_in2 {X : List Rw} {k : Nat} (h : k < X.length) : X[k]? = some (X.getD k []) := by rw [List.getD_eq_getElem?_getD, List.getElem?_eq_getElem h] <;> rfl
theorem isN_opt (o : Option Nat) : gIsN (optN o) .non = some (.bl (!o.isSome)) := by cases o <;> rfl
theorem lenS_ls (P : List Pc) : gLen [lsD P] = some (natD P.length) := by
  show some (D.int ((P.map C.prD).length : Int)) = _
  rw [List.length_map] <;> rfl
theorem vd_bad {P : List Pc} {W : Nat} {t : Bool} {X : List Rw} {k : Nat} (h : isN (vd P W t X k) = true) : X.getD k [] ≠ [] := fun z => by
  unfold vd at h
  rw [z] at h
  cases h
theorem row_flawI {P : List Pc} {W : Nat} {t : Bool} {X : List Rw} (hP : P.length ≤ 5) (hX : X.length ≤ 10) (hr : ∀ r ∈ X, r.length ≤ 20) {k : Nat} (hk : k < X.length) (hb : ∀ j < k, isN (vd P W t X j) = true) :
    F_row_flaw [lsD P, natD W, cutI X, natD k, .bl t] = some (vd P W t X k) := by
  let r := X.getD k []
  let pre := X.take k
  have rX : r ∈ X := mem_at (getD_in2 hk)
  have rl20 := hr r rX
  let E : En := [.dat (lsD P), .dat (natD W), .dat (cutI X), .dat (natD k), .dat (.bl t), .dat (rowI r), .dat (cutI pre), .no, .no, .no]
  have g1 : sAsgG (dTup (aCons (d2 gIx (dVar 2) (dVar 3)) (aCons (dCutA (dVar 2) oNo (oInt (dVar 3))) aNil))) (gTupD (gsCons (gSet 5) (gsCons (gSet 6) gsNil)) 2) [.dat (lsD P), .dat (natD W), .dat (cutI X), .dat (natD k), .dat (.bl t), .no, .no, .no, .no, .no] = some (.nx E) := by
    refine asg_of (d := .tup [rowI r, cutI pre]) (tup_of (a_two (d2_of (x := cutI X) (y := natD k) rfl rfl (at_nat rowI X [] hk)) ?_)) rfl
    show some (D.tup (cutD (X.map rowI) none (some (k : Int)))) = _
    rw [cut_toT] <;> rfl
  have t2 : tNot1 (tTr (dVar 5)) E = some r.isEmpty := by
    show some (!(!(r.map D.int).isEmpty)) = _
    rw [Bool.not_not, List.isEmpty_map]
  show F_row_flaw [lsD P, natD W, cutI X, natD k, .bl t] = some (if r.isEmpty = true then .str "empty row" else if e2 r = true then .str "not ascending" else if e3 P.length r = true then .str "no such piece" else if e4 pre r = true then .str "laid twice" else if e5 X k r = true then .str "rows out of order" else if e6 P W t r = true then .str "does not fit" else .non)
  cases c1 : r.isEmpty with
  | true =>
    rw [c1] at t2
    exact run_rt rfl (seq g1 (seqR (sifT t2 rfl)))
  | false =>
  rw [c1] at t2
  rw [if_neg Bool.false_ne_true]
  obtain ⟨x, o, er⟩ : ∃ x o, r = x :: o := by
    cases h : r with
    | nil => rw [h] at c1; cases c1
    | cons x o => exact ⟨x, o, rfl⟩
  have l3 : lLc (iZip2 (aCons (dVar 5) (aCons (dCutA (dVar 5) (oInt (dC (.int 1))) oNo) aNil))) (gTupD (gsCons (gSet 9) (gsCons (gSet 7) gsNil)) 2) fYes (d2 gGe (dVar 9) (dVar 7)) [9, 7] E = some ((r.zip (r.drop 1)).map fun p => D.bl (decide (p.2 ≤ p.1))) := by
    refine lc_all (r.zip (r.drop 1)) (fun p => .tup [.int p.1, .int p.2]) _ ?_ (by rw [List.length_zip]; omega) fun p _ => ⟨_, rfl, rfl⟩
    have e : iZip2 (aCons (dVar 5) (aCons (dCutA (dVar 5) (oInt (dC (.int 1))) oNo) aNil)) E = some (zipD (r.map D.int) (cutD (r.map D.int) (some ((1 : Nat) : Int)) none)) := rfl
    rw [e, cut_fromT]
    unfold zipD
    rw [List.zip_map, List.map_map] <;> rfl
  have t3 : tBl (dCB gAny (aCons (dL (lLc (iZip2 (aCons (dVar 5) (aCons (dCutA (dVar 5) (oInt (dC (.int 1))) oNo) aNil))) (gTupD (gsCons (gSet 9) (gsCons (gSet 7) gsNil)) 2) fYes (d2 gGe (dVar 9) (dVar 7)) [9, 7])) aNil)) E = some (e2 r) := bl_of (cb_of (a_one (dL_of l3)) (any_map _ _))
  cases c2 : e2 r with
  | true =>
    rw [c2] at t3
    exact run_rt rfl (seq g1 (seq (sifF t2 rfl) (seqR (sifT t3 rfl))))
  | false =>
  rw [c2] at t3
  rw [if_neg Bool.false_ne_true]
  have t4 : tOr2 (tBl (d2 gLt (d2 gIx (dVar 5) (dC (.int 0))) (dC (.int 0)))) (tBl (d2 gGe (d2 gIx (dVar 5) (d1 gNeg (dC (.int 1)))) (dCB gLen (aCons (dVar 0) aNil)))) E = some (e3 P.length r) := by
    have v0 : d2 gIx (dVar 5) (dC (.int 0)) E = some (.int (r.headD 0)) := by
      refine d2_of (x := rowI r) (y := .int 0) rfl rfl ?_
      rw [er]
      exact head_int x o
    have v1 : d2 gIx (dVar 5) (d1 gNeg (dC (.int 1))) E = some (.int (r.getLastD 0)) := by
      refine d2_of (x := rowI r) (y := .int (-1)) rfl rfl ?_
      show atI (r.map D.int) (-1) = _
      rw [er]
      exact last_int
    have a : tBl (d2 gLt (d2 gIx (dVar 5) (dC (.int 0))) (dC (.int 0))) E = some (decide (r.headD 0 < 0)) := bl_of (d2_of v0 rfl rfl)
    have b : tBl (d2 gGe (d2 gIx (dVar 5) (d1 gNeg (dC (.int 1)))) (dCB gLen (aCons (dVar 0) aNil))) E = some (decide ((P.length : Int) ≤ r.getLastD 0)) := bl_of (d2_of v1 (cb_of (a_one rfl) (lenS_ls P)) rfl)
    exact or_of a b
  cases c3 : e3 P.length r with
  | true =>
    rw [c3] at t4
    exact run_rt rfl (seq g1 (seq (sifF t2 rfl) (seq (sifF t3 rfl) (seqR (sifT t4 rfl)))))
  | false =>
  rw [c3] at t4
  rw [if_neg Bool.false_ne_true]
  have prel : pre.length ≤ 10 := by
    show (X.take k).length ≤ 10
    rw [List.length_take]
    omega
  have l5 : lLc2 (iAny (dVar 6)) (gSet 7) fYes (iAny (dVar 5)) (gSet 8) fYes (d2 gInA (dVar 8) (dVar 7)) [7, 8] [8] E = some ((pre.flatMap fun s => r.map fun n => (s, n)).map fun z : Rw × Int => D.bl (decide (z.2 ∈ z.1))) := by
    have g := lc2_gen (en := E) (gd := gSet 7) (fi1 := iAny (dVar 5)) (gd1 := gSet 8) (fe := d2 gInA (dVar 8) (dVar 7)) (vs1 := [8]) rowI (fun _ : Rw => r) (fun _ n => D.int n) (fun s n => D.bl (decide (n ∈ s))) pre (fun s _ => ⟨[.dat (lsD P), .dat (natD W), .dat (cutI X), .dat (natD k), .dat (.bl t), .dat (rowI r), .dat (cutI pre), .dat (rowI s), .no, .no], rfl, rfl, rfl, fun n _ => ⟨_, rfl, d2_of (x := .int n) (y := rowI s) rfl rfl (in_rowI n s)⟩⟩)
    unfold lLc2
    show ((lc2Go _ _ _ _ _ _ _ E (pre.map rowI)).bind _) = _
    rw [g]
    have e : (pre.flatMap fun s => r.map fun n => D.bl (decide (n ∈ s))) = (pre.flatMap fun s => r.map fun n => (s, n)).map fun z : Rw × Int => D.bl (decide (z.2 ∈ z.1)) := by
      rw [List.map_flatMap]
      congr 1
      funext s
      rw [List.map_map] <;> rfl
    rw [e]
    refine if_pos ?_
    rw [List.length_map]
    have := flatMap_len (fun s : Rw => r.map fun n => (s, n)) 20 (fun s => by rw [List.length_map]; exact rl20) pre
    exact lim_of (by omega)
  have t5 : tBl (dCB gAny (aCons (dL (lLc2 (iAny (dVar 6)) (gSet 7) fYes (iAny (dVar 5)) (gSet 8) fYes (d2 gInA (dVar 8) (dVar 7)) [7, 8] [8])) aNil)) E = some (e4 pre r) := by
    refine (bl_of (cb_of (a_one (dL_of l5)) (any_map _ _))).trans ?_
    congr 1
    unfold e4
    refine Bool.eq_iff_iff.mpr ?_
    rw [List.any_eq_true, List.any_eq_true]
    constructor
    · rintro ⟨z, hz, hd⟩
      rw [decide_eq_true_eq] at hd
      obtain ⟨s, hs, hz⟩ := List.mem_flatMap.mp hz
      obtain ⟨n, hn, rfl⟩ := List.mem_map.mp hz
      exact ⟨n, hn, by rw [decide_eq_true_eq]; exact List.mem_flatten.mpr ⟨s, hs, hd⟩⟩
    · rintro ⟨n, hn, hd⟩
      rw [decide_eq_true_eq] at hd
      obtain ⟨s, hs, hz⟩ := List.mem_flatten.mp hd
      exact ⟨(s, n), List.mem_flatMap.mpr ⟨s, hs, List.mem_map.mpr ⟨n, hn, rfl⟩⟩, by rw [decide_eq_true_eq]; exact hz⟩
  cases c4 : e4 pre r with
  | true =>
    rw [c4] at t5
    exact run_rt rfl (seq g1 (seq (sifF t2 rfl) (seq (sifF t3 rfl) (seq (sifF t4 rfl) (seqR (sifT t5 rfl))))))
  | false =>
  rw [c4] at t5
  rw [if_neg Bool.false_ne_true]
  have t6 : tAnd2 (tTr (dVar 6)) (tBl (d2 gLt (d2 gIx (dVar 5) (dC (.int 0))) (d2 gIx (d2 gIx (dVar 6) (d1 gNeg (dC (.int 1)))) (dC (.int 0))))) E = some (e5 X k r) := by
    by_cases k0 : k = 0
    · have v : tTr (dVar 6) E = some false := by
        show some (!(pre.map rowI).isEmpty) = _
        have : pre = [] := by
          show X.take k = []
          rw [k0, List.take_zero]
        rw [this] <;> rfl
      have ee : e5 X k r = false := by
        unfold e5
        rw [decide_eq_false (by omega), Bool.false_and]
      rw [ee]
      exact and_F v
    · have ep : pre = X.take (k - 1) ++ [X.getD (k - 1) []] := by
        show X.take k = _
        have := take_snoc (getD_in2 (X := X) (k := k - 1) (by omega))
        rw [show k - 1 + 1 = k by omega] at this
        exact this
      have v : tTr (dVar 6) E = some true := by
        show some (!(pre.map rowI).isEmpty) = _
        rw [ep, List.map_append]
        cases X.take (k - 1) <;> rfl
      have ne := vd_bad (hb (k - 1) (by omega))
      obtain ⟨y, p, ey⟩ : ∃ y p, X.getD (k - 1) [] = y :: p := by
        cases h : X.getD (k - 1) [] with
        | nil => exact absurd h ne
        | cons y p => exact ⟨y, p, rfl⟩
      have v2 : d2 gIx (d2 gIx (dVar 6) (d1 gNeg (dC (.int 1)))) (dC (.int 0)) E = some (.int ((X.getD (k - 1) []).headD 0)) := by
        refine d2_of (x := rowI (X.getD (k - 1) [])) (y := .int 0) (d2_of (x := cutI pre) (y := .int (-1)) rfl rfl ?_) rfl ?_
        · show atI (pre.map rowI) (-1) = _
          rw [ep, List.map_append]
          exact L2.atI_last _ _
        · rw [ey]
          exact head_int y p
      have v0 : d2 gIx (dVar 5) (dC (.int 0)) E = some (.int (r.headD 0)) := by
        refine d2_of (x := rowI r) (y := .int 0) rfl rfl ?_
        rw [er]
        exact head_int x o
      have ee : e5 X k r = decide (r.headD 0 < (X.getD (k - 1) []).headD 0) := by
        unfold e5
        rw [decide_eq_true (by omega), Bool.true_and]
      rw [ee]
      exact and_T v (bl_of (d2_of v0 v2 rfl))
  cases c5 : e5 X k r with
  | true =>
    rw [c5] at t6
    exact run_rt rfl (seq g1 (seq (sifF t2 rfl) (seq (sifF t3 rfl) (seq (sifF t4 rfl) (seq (sifF t5 rfl) (seqR (sifT t6 rfl)))))))
  | false =>
  rw [c5] at t6
  rw [if_neg Bool.false_ne_true]
  have ir := in_rangeR c2 c3
  have f := row_length_rl (ps := P) (row := natR r) (w := W) (t := t) (nat_lt ir) (by unfold natR; rw [List.length_map]; omega)
  rw [← nat_back ir] at f
  have t7 : tBl (d2 gIsN (dCall F_row_length (aSnoc 3 (aCons (dVar 0) (aCons (dVar 5) (aCons (dVar 1) aNil))) (dVar 4))) (dC .non)) E = some (e6 P W t r) := bl_of (d2_of (call_of (g := aSnoc 3 (aCons (dVar 0) (aCons (dVar 5) (aCons (dVar 1) aNil))) (dVar 4)) rfl f) rfl (isN_opt _))
  cases c6 : e6 P W t r with
  | true =>
    rw [c6] at t7
    exact run_rt rfl (seq g1 (seq (sifF t2 rfl) (seq (sifF t3 rfl) (seq (sifF t4 rfl) (seq (sifF t5 rfl) (seq (sifF t6 rfl) (seqR (sifT t7 rfl))))))))
  | false =>
    rw [c6] at t7
    exact run_rt rfl (seq g1 (seq (sifF t2 rfl) (seq (sifF t3 rfl) (seq (sifF t4 rfl) (seq (sifF t5 rfl) (seq (sifF t6 rfl) (seq (sifF t7 rfl) rfl)))))))
end G

namespace G
open PySem DD C L2
def bad (P : List Pc) (W : Nat) (t : Bool) (X : List Rw) (k : Nat) : Bool := !isN (vd P W t X k)
def valV (P : List Pc) (W : Nat) (t : Bool) (X : List Rw) (k : Nat) : D := .tup [natD k, vd P W t X k]
def endV (P : List Pc) (X : List Rw) : D := if X.flatten.length < P.length then .tup [natD X.length, .str "piece left out"] else .non
def Ans (P : List Pc) (W : Nat) (t : Bool) (X : List Rw) (d : D) : Prop := (∃ j, j < X.length ∧ bad P W t X j = true ∧ (∀ i < j, bad P W t X i = false) ∧ d = valV P W t X j) ∨ ((∀ j < X.length, bad P W t X j = false) ∧ d = endV P X)
theorem ans_one {P : List Pc} {W : Nat} {t : Bool} {X : List Rw} {d d' : D} (h : Ans P W t X d) (h' : Ans P W t X d') : d = d' := by
  rcases h with ⟨j, a1, a2, a3, rfl⟩ | ⟨a, rfl⟩
  · rcases h' with ⟨k, b1, b2, b3, rfl⟩ | ⟨b, rfl⟩
    · have : j = k := by
        rcases Nat.lt_trichotomy j k with c | c | c
        · have := b3 j c
          rw [a2] at this
          cases this
        · exact c
        · have := a3 k c
          rw [b2] at this
          cases this
      rw [this]
    · have := b j a1
      rw [a2] at this
      cases this
  · rcases h' with ⟨k, b1, b2, b3, rfl⟩ | ⟨b, rfl⟩
    · have := a k b1
      rw [b2] at this
      cases this
    · rfl
theorem notN_isN (d : D) : gNotN d .non = some (.bl (!isN d)) := by cases d <;> rfl
theorem isN_of {P : List Pc} {W : Nat} {t : Bool} {X : List Rw} {k : Nat} (h : bad P W t X k = false) : isN (vd P W t X k) = true := by
  unfold bad at h
  cases c : isN (vd P W t X k) with
  | true => rfl
  | false => rw [c] at h; cases h
theorem len_cut (X : List Rw) {en : En} {i : Nat} (h : en[i]? = some (.dat (cutI X))) : dCB gLen (aCons (dVar i) aNil) en = some (natD X.length) := by
  refine cb_of (a_one (dVar_of h)) ?_
  show some (D.int ((X.map rowI).length : Int)) = _
  rw [List.length_map] <;> rfl
theorem flawI_ok {P : List Pc} {W : Nat} {t : Bool} {X : List Rw} (hP : P.length ≤ 5) (hX : X.length ≤ 10) (hr : ∀ r ∈ X, r.length ≤ 20) : ∃ d, F_flaw_of_cutting [lsD P, natD W, cutI X, .bl t] = some d ∧ Ans P W t X d := by
  let E : Sl → Sl → En := fun s4 s5 => [.dat (lsD P), .dat (natD W), .dat (cutI X), .dat (.bl t), s4, s5, .no]
  have it : iR1 (aCons (dCB gLen (aCons (dVar 2) aNil)) aNil) (E .no .no) = some ((List.range' 0 X.length).map natD) := by
    rw [← List.range_eq_range']
    exact range0_nat (a_one (len_cut X rfl)) (by omega)
  have r := for_first (gd := gSet 4) (g := sSeq (sSet 5 (dCall F_row_flaw (aCons (dVar 0) (aCons (dVar 1) (aCons (dVar 2) (aCons (dVar 4) (aCons (dVar 3) aNil)))))))
 (sIf (tBl (d2 gNotN (dVar 5) (dC .non))) (sRet (dTup (aCons (dVar 4) (aCons (dVar 5) aNil)))) sNil)) (fun _ en => ∃ s4 s5, en = E s4 s5) (bad P W t X) (valV P W t X) X.length (fun k hk hb en hI => by
      obtain ⟨s4, s5, rfl⟩ := hI
      have e := row_flawI (W := W) (t := t) hP hX hr hk fun j hj => isN_of (hb j hj)
      refine ⟨E (.dat (natD k)) s5, rfl, ?_⟩
      have g5 : sSet 5 (dCall F_row_flaw (aCons (dVar 0) (aCons (dVar 1) (aCons (dVar 2) (aCons (dVar 4) (aCons (dVar 3) aNil)))))) (E (.dat (natD k)) s5) = some (.nx (E (.dat (natD k)) (.dat (vd P W t X k)))) := set_of (call_of (a_cons rfl (a_cons rfl (a_cons rfl (a_two rfl rfl)))) e)
      have t5 : tBl (d2 gNotN (dVar 5) (dC .non)) (E (.dat (natD k)) (.dat (vd P W t X k))) = some (bad P W t X k) := bl_of (d2_of rfl rfl (notN_isN _))
      cases c : bad P W t X k with
      | true =>
        rw [c] at t5
        rw [if_pos rfl]
        exact seq g5 (sifT t5 (ret_of (tup_of (a_two rfl rfl))))
      | false =>
        rw [c] at t5
        rw [if_neg Bool.false_ne_true]
        exact ⟨_, seq g5 (sifF t5 rfl), _, _, rfl⟩) X.length 0 (E .no .no) (by omega) (fun j hj => absurd hj (Nat.not_lt_zero _)) ⟨_, _, rfl⟩
  rcases r with ⟨j, a1, a2, a3, r⟩ | ⟨a, en', r, s4, s5, rfl⟩
  · refine ⟨valV P W t X j, run_rt rfl (seqR ?_), .inl ⟨j, a1, a2, a3, rfl⟩⟩
    show (iR1 _ (E .no .no)).bind _ = _
    rw [it]
    exact r
  · have g : sFor (iR1 (aCons (dCB gLen (aCons (dVar 2) aNil)) aNil)) (gSet 4) (sSeq (sSet 5 (dCall F_row_flaw (aCons (dVar 0) (aCons (dVar 1) (aCons (dVar 2) (aCons (dVar 4) (aCons (dVar 3) aNil)))))))
 (sIf (tBl (d2 gNotN (dVar 5) (dC .non))) (sRet (dTup (aCons (dVar 4) (aCons (dVar 5) aNil)))) sNil)) (E .no .no) = some (.nx (E s4 s5)) := by
      show (iR1 _ (E .no .no)).bind _ = _
      rw [it]
      exact r
    have lw : lLc (iAny (dVar 2)) (gSet 6) fYes (dCB gLen (aCons (dVar 6) aNil)) [6] (E s4 s5) = some (X.map fun s => D.int ((s.length : Nat) : Int)) :=
      lc_all X rowI _ rfl (by omega) fun s _ => ⟨[.dat (lsD P), .dat (natD W), .dat (cutI X), .dat (.bl t), s4, s5, .dat (rowI s)], rfl, cb_of (a_one rfl) (by
        show some (D.int ((s.map D.int).length : Int)) = _
        rw [List.length_map])⟩
    have sm : gSum [.lst (X.map fun s => D.int ((s.length : Nat) : Int))] = some (natD X.flatten.length) := by
      show (intsOf _).map _ = _
      rw [ints_map (fun s : Rw => ((s.length : Nat) : Int))]
      show some (D.int _) = some (D.int _)
      rw [List.length_flatten, ← sum_cast, List.map_map] <;> rfl
    have t9 : tBl (d2 gLt (dCB gSum (aCons (dL (lLc (iAny (dVar 2)) (gSet 6) fYes (dCB gLen (aCons (dVar 6) aNil)) [6])) aNil)) (dCB gLen (aCons (dVar 0) aNil))) (E s4 s5) = some (decide (X.flatten.length < P.length)) := by
      refine (bl_of (d2_of (cb_of (a_one (dL_of lw)) sm) (cb_of (a_one rfl) (lenS_ls P)) rfl)).trans ?_
      congr 1
      exact decide_eq_decide.mpr (by omega)
    refine ⟨endV P X, ?_, .inr ⟨a, rfl⟩⟩
    unfold endV
    by_cases c : X.flatten.length < P.length
    · rw [decide_eq_true c] at t9
      rw [if_pos c]
      exact run_rt rfl (seq g (seqR (sifT t9 (ret_of (tup_of (a_two (len_cut X rfl) rfl))))))
    · rw [decide_eq_false c] at t9
      rw [if_neg c]
      exact run_rt rfl (seq g (seq (sifF t9 rfl) rfl))
abbrev gTurn : En → Option Out := (sSeq (sSet 6 (dL (lListOf (d2 gIx (dVar 2) (dVar 5)))))
 (sSeq (sIf (tBl (d2 gEq (dCB gLen (aCons (dVar 6) aNil)) (dC (.int 0)))) (sRet (dTup (aCons (dVar 5) (aCons (dC (.str "empty row")) aNil)))) sNil)
 (sSeq (sFor (iR2 (aCons (dC (.int 1)) (aCons (dCB gLen (aCons (dVar 6) aNil)) aNil))) (gSet 7) (sIf (tBl (d2 gLe (d2 gIx (dVar 6) (dVar 7)) (d2 gIx (dVar 6) (d2 gSub (dVar 7) (dC (.int 1)))))) (sRet (dTup (aCons (dVar 5) (aCons (dC (.str "not ascending")) aNil)))) sNil))
 (sSeq (sIf (tOr2 (tBl (d2 gLt (d2 gIx (dVar 6) (dC (.int 0))) (dC (.int 0)))) (tBl (d2 gGe (d2 gIx (dVar 6) (d1 gNeg (dC (.int 1)))) (dCB gLen (aCons (dVar 0) aNil))))) (sRet (dTup (aCons (dVar 5) (aCons (dC (.str "no such piece")) aNil)))) sNil)
 (sSeq (sIf (tBl (dCB gAny (aCons (dL (lLc (iAny (dVar 6)) (gSet 8) fYes (d2 gInL (dVar 8) (dVar 4)) [8])) aNil))) (sRet (dTup (aCons (dVar 5) (aCons (dC (.str "laid twice")) aNil)))) sNil)
 (sSeq (sIf (tAnd2 (tBl (d2 gGt (dVar 5) (dC (.int 0)))) (tBl (d2 gLt (d2 gIx (dVar 6) (dC (.int 0))) (d2 gIx (d2 gIx (dVar 2) (d2 gSub (dVar 5) (dC (.int 1)))) (dC (.int 0)))))) (sRet (dTup (aCons (dVar 5) (aCons (dC (.str "rows out of order")) aNil)))) sNil)
 (sSeq (sIf (tBl (d2 gIsN (dCall F__law_row (aCons (dVar 0) (aCons (dVar 6) (aCons (dVar 1) (aCons (dVar 3) aNil))))) (dC .non))) (sRet (dTup (aCons (dVar 5) (aCons (dC (.str "does not fit")) aNil)))) sNil)
 (sSet 4 (d2 gAddB (dVar 4) (dVar 6))))))))))
def lstI (r : Rw) : D := .lst (r.map D.int)
theorem head_lst (x : Int) (o : Rw) : gIx (lstI (x :: o)) (.int 0) = some (.int x) := by
  show atI ((x :: o).map D.int) ((0 : Nat) : Int) = _
  exact atI_int (r := x :: o) (j := 0) (Nat.succ_pos _)
theorem turnI_ok {P : List Pc} {W : Nat} {t : Bool} {X : List Rw} (hP : P.length ≤ 5) (hX : X.length ≤ 10) (hr : ∀ r ∈ X, r.length ≤ 20) {k : Nat} (hk : k < X.length) (hb : ∀ j < k, isN (vd P W t X j) = true) (s6 s7 : Sl) :
    if bad P W t X k = true then gTurn [.dat (lsD P), .dat (natD W), .dat (cutI X), .dat (.bl t), .dat (lstI (X.take k).flatten), .dat (natD k), s6, s7, .no] = some (.rt (valV P W t X k)) else ∃ t6 t7, gTurn [.dat (lsD P), .dat (natD W), .dat (cutI X), .dat (.bl t), .dat (lstI (X.take k).flatten), .dat (natD k), s6, s7, .no] = some (.nx [.dat (lsD P), .dat (natD W), .dat (cutI X), .dat (.bl t), .dat (lstI (X.take (k + 1)).flatten), .dat (natD k), t6, t7, .no]) := by
  let r := X.getD k []
  let pre := X.take k
  have rX : r ∈ X := mem_at (getD_in2 hk)
  have rl20 := hr r rX
  let E : Sl → En := fun s7 => [.dat (lsD P), .dat (natD W), .dat (cutI X), .dat (.bl t), .dat (lstI pre.flatten), .dat (natD k), .dat (lstI r), s7, .no]
  have g1 : sSet 6 (dL (lListOf (d2 gIx (dVar 2) (dVar 5)))) [.dat (lsD P), .dat (natD W), .dat (cutI X), .dat (.bl t), .dat (lstI pre.flatten), .dat (natD k), s6, s7, .no] = some (.nx (E s7)) := by
    refine set_of (dL_of ?_)
    show (d2 gIx (dVar 2) (dVar 5) [.dat (lsD P), .dat (natD W), .dat (cutI X), .dat (.bl t), .dat (lstI pre.flatten), .dat (natD k), s6, s7, .no]).bind _ = _
    rw [d2_of (x := cutI X) (y := natD k) rfl rfl (at_nat rowI X [] hk)] <;> rfl
  have lr : ∀ s7, dCB gLen (aCons (dVar 6) aNil) (E s7) = some (natD r.length) := fun s7 => by
    refine cb_of (a_one rfl) ?_
    show some (D.int ((r.map D.int).length : Int)) = _
    rw [List.length_map] <;> rfl
  have hv : vd P W t X k = if r.isEmpty = true then .str "empty row" else if e2 r = true then .str "not ascending" else if e3 P.length r = true then .str "no such piece" else if e4 pre r = true then .str "laid twice" else if e5 X k r = true then .str "rows out of order" else if e6 P W t r = true then .str "does not fit" else .non := rfl
  have t2 : tBl (d2 gEq (dCB gLen (aCons (dVar 6) aNil)) (dC (.int 0))) (E s7) = some r.isEmpty := by
    refine (bl_of (d2_of (y := natD 0) (lr _) rfl (eq_nat _ _))).trans ?_
    congr 1
    cases r with
    | nil => rfl
    | cons x o => exact decide_eq_false (by rw [List.length_cons]; omega)
  have rt_ : ∀ (s : Str) (s7 : Sl), vd P W t X k = .str s → sRet (dTup (aCons (dVar 5) (aCons (dC (.str s)) aNil))) (E s7) = some (.rt (valV P W t X k)) := fun s s7 h => by
    unfold valV
    rw [h]
    exact ret_of (tup_of (a_two rfl rfl))
  have bd : ∀ s : Str, vd P W t X k = .str s → bad P W t X k = true := fun s h => by
    unfold bad
    rw [h] <;> rfl
  cases c1 : r.isEmpty with
  | true =>
    rw [c1] at t2 hv
    rw [if_pos rfl] at hv
    rw [if_pos (bd _ hv)]
    exact seq g1 (seqR (sifT t2 (rt_ _ _ hv)))
  | false =>
  rw [c1] at t2 hv
  rw [if_neg Bool.false_ne_true] at hv
  obtain ⟨x, o, er⟩ : ∃ x o, r = x :: o := by
    cases h : r with
    | nil => rw [h] at c1; cases c1
    | cons x o => exact ⟨x, o, rfl⟩
  have loop := for_ret (fi := iR2 (aCons (dC (.int 1)) (aCons (dCB gLen (aCons (dVar 6) aNil)) aNil))) (gd := gSet 7) (g := sIf (tBl (d2 gLe (d2 gIx (dVar 6) (dVar 7)) (d2 gIx (dVar 6) (d2 gSub (dVar 7) (dC (.int 1)))))) (sRet (dTup (aCons (dVar 5) (aCons (dC (.str "not ascending")) aNil)))) sNil) (en := E s7) ((List.range (r.length - 1)).map fun i => 1 + i) natD (fun en => ∃ s7, en = E s7) (fun j => decide (r.getD j 0 ≤ r.getD (j - 1) 0)) (.tup [natD k, .str "not ascending"])
    (range_nat (lo := 1) (hi := r.length) (a_two rfl (lr _)) (by omega) (by omega)) ⟨_, rfl⟩ (fun j hj en hI => by
      obtain ⟨s7, rfl⟩ := hI
      obtain ⟨i, hi, rfl⟩ := List.mem_map.mp hj
      have hi := List.mem_range.mp hi
      refine ⟨E (.dat (natD (1 + i))), rfl, ?_⟩
      have v1 : d2 gIx (dVar 6) (dVar 7) (E (.dat (natD (1 + i)))) = some (.int (r.getD (1 + i) 0)) := d2_of (x := lstI r) (y := natD (1 + i)) rfl rfl (atI_int (by omega))
      have vs : d2 gSub (dVar 7) (dC (.int 1)) (E (.dat (natD (1 + i)))) = some (natD i) := by
        show some (D.int (((1 + i : Nat) : Int) - 1)) = some (D.int (i : Int))
        congr 2
        omega
      have v2 : d2 gIx (dVar 6) (d2 gSub (dVar 7) (dC (.int 1))) (E (.dat (natD (1 + i)))) = some (.int (r.getD i 0)) := d2_of (x := lstI r) (y := natD i) rfl vs (atI_int (by omega))
      have tt : tBl (d2 gLe (d2 gIx (dVar 6) (dVar 7)) (d2 gIx (dVar 6) (d2 gSub (dVar 7) (dC (.int 1))))) (E (.dat (natD (1 + i)))) = some (decide (r.getD (1 + i) 0 ≤ r.getD (1 + i - 1) 0)) := by
        rw [show 1 + i - 1 = i by omega]
        exact bl_of (d2_of v1 v2 rfl)
      cases c : decide (r.getD (1 + i) 0 ≤ r.getD (1 + i - 1) 0) with
      | true =>
        rw [c] at tt
        rw [if_pos rfl]
        exact sifT tt (ret_of (tup_of (a_two rfl rfl)))
      | false =>
        rw [c] at tt
        rw [if_neg Bool.false_ne_true]
        exact ⟨_, .inl (sifF tt rfl), _, rfl⟩)
  have ea : (((List.range (r.length - 1)).map fun i => 1 + i).any fun j => decide (r.getD j 0 ≤ r.getD (j - 1) 0)) = e2 r := by
    rw [e2_ix, List.any_map]
    congr 1
    funext j
    show decide (r.getD (1 + j) 0 ≤ r.getD (1 + j - 1) 0) = _
    rw [show 1 + j - 1 = j by omega, Nat.add_comm]
  rw [ea] at loop
  cases c2 : e2 r with
  | true =>
    rw [c2, if_pos rfl] at loop hv
    rw [if_pos (bd _ hv)]
    unfold valV
    rw [hv]
    exact seq g1 (seq (sifF t2 rfl) (seqR loop))
  | false =>
  rw [c2, if_neg Bool.false_ne_true] at loop hv
  obtain ⟨en', loop, s7', rfl⟩ := loop
  let F := E s7'
  have v0 : d2 gIx (dVar 6) (dC (.int 0)) F = some (.int (r.headD 0)) := by
    refine d2_of (x := lstI r) (y := .int 0) rfl rfl ?_
    rw [er]
    exact head_lst x o
  have t4 : tOr2 (tBl (d2 gLt (d2 gIx (dVar 6) (dC (.int 0))) (dC (.int 0)))) (tBl (d2 gGe (d2 gIx (dVar 6) (d1 gNeg (dC (.int 1)))) (dCB gLen (aCons (dVar 0) aNil)))) F = some (e3 P.length r) := by
    have v1 : d2 gIx (dVar 6) (d1 gNeg (dC (.int 1))) F = some (.int (r.getLastD 0)) := by
      refine d2_of (x := lstI r) (y := .int (-1)) rfl rfl ?_
      show atI (r.map D.int) (-1) = _
      rw [er]
      exact last_int
    have a : tBl (d2 gLt (d2 gIx (dVar 6) (dC (.int 0))) (dC (.int 0))) F = some (decide (r.headD 0 < 0)) := bl_of (d2_of v0 rfl rfl)
    have b : tBl (d2 gGe (d2 gIx (dVar 6) (d1 gNeg (dC (.int 1)))) (dCB gLen (aCons (dVar 0) aNil))) F = some (decide ((P.length : Int) ≤ r.getLastD 0)) := bl_of (d2_of v1 (cb_of (a_one rfl) (lenS_ls P)) rfl)
    exact or_of a b
  cases c3 : e3 P.length r with
  | true =>
    rw [c3] at t4 hv
    rw [if_pos rfl] at hv
    rw [if_pos (bd _ hv)]
    exact seq g1 (seq (sifF t2 rfl) (seq loop (seqR (sifT t4 (rt_ _ _ hv)))))
  | false =>
  rw [c3] at t4 hv
  rw [if_neg Bool.false_ne_true] at hv
  have l5 : lLc (iAny (dVar 6)) (gSet 8) fYes (d2 gInL (dVar 8) (dVar 4)) [8] F = some (r.map fun n => D.bl (decide (n ∈ pre.flatten))) :=
    lc_all r D.int _ rfl (by omega) fun n _ => ⟨_, rfl, d2_of (x := .int n) (y := lstI pre.flatten) rfl rfl (in_seen n _)⟩
  have t5 : tBl (dCB gAny (aCons (dL (lLc (iAny (dVar 6)) (gSet 8) fYes (d2 gInL (dVar 8) (dVar 4)) [8])) aNil)) F = some (e4 pre r) := bl_of (cb_of (a_one (dL_of l5)) (any_map _ _))
  cases c4 : e4 pre r with
  | true =>
    rw [c4] at t5 hv
    rw [if_pos rfl] at hv
    rw [if_pos (bd _ hv)]
    exact seq g1 (seq (sifF t2 rfl) (seq loop (seq (sifF t4 rfl) (seqR (sifT t5 (rt_ _ _ hv))))))
  | false =>
  rw [c4] at t5 hv
  rw [if_neg Bool.false_ne_true] at hv
  have t6 : tAnd2 (tBl (d2 gGt (dVar 5) (dC (.int 0)))) (tBl (d2 gLt (d2 gIx (dVar 6) (dC (.int 0))) (d2 gIx (d2 gIx (dVar 2) (d2 gSub (dVar 5) (dC (.int 1)))) (dC (.int 0))))) F = some (e5 X k r) := by
    have a : tBl (d2 gGt (dVar 5) (dC (.int 0))) F = some (decide (0 < k)) := bl_of (d2_of (x := natD k) (y := natD 0) rfl rfl (gt_nat k 0))
    by_cases k0 : k = 0
    · have ee : e5 X k r = false := by
        unfold e5
        rw [decide_eq_false (by omega), Bool.false_and]
      rw [ee]
      rw [decide_eq_false (by omega)] at a
      exact and_F a
    · rw [decide_eq_true (by omega)] at a
      have ne := vd_bad (hb (k - 1) (by omega))
      obtain ⟨y, p, ey⟩ : ∃ y p, X.getD (k - 1) [] = y :: p := by
        cases h : X.getD (k - 1) [] with
        | nil => exact absurd h ne
        | cons y p => exact ⟨y, p, rfl⟩
      have vs : d2 gSub (dVar 5) (dC (.int 1)) F = some (natD (k - 1)) := by
        show some (D.int ((k : Int) - 1)) = some (D.int ((k - 1 : Nat) : Int))
        congr 2
        omega
      have v2 : d2 gIx (d2 gIx (dVar 2) (d2 gSub (dVar 5) (dC (.int 1)))) (dC (.int 0)) F = some (.int ((X.getD (k - 1) []).headD 0)) := by
        refine d2_of (x := rowI (X.getD (k - 1) [])) (y := .int 0) (d2_of (x := cutI X) (y := natD (k - 1)) rfl vs (at_nat rowI X [] (by omega))) rfl ?_
        rw [ey]
        exact head_int y p
      have ee : e5 X k r = decide (r.headD 0 < (X.getD (k - 1) []).headD 0) := by
        unfold e5
        rw [decide_eq_true (by omega), Bool.true_and]
      rw [ee]
      exact and_T a (bl_of (d2_of v0 v2 rfl))
  cases c5 : e5 X k r with
  | true =>
    rw [c5] at t6 hv
    rw [if_pos rfl] at hv
    rw [if_pos (bd _ hv)]
    exact seq g1 (seq (sifF t2 rfl) (seq loop (seq (sifF t4 rfl) (seq (sifF t5 rfl) (seqR (sifT t6 (rt_ _ _ hv)))))))
  | false =>
  rw [c5] at t6 hv
  rw [if_neg Bool.false_ne_true] at hv
  have ir := in_rangeR c2 c3
  have l5' : (natR r).length ≤ 5 := by
    have := len_asc (n := P.length) 0 (asc_ofE2 c2) fun z hz => by have := ir z hz; omega
    unfold natR
    rw [List.length_map]
    omega
  have f := rl_law (P := P) (row := natR r) (W := W) (t := t) (nat_lt ir) l5'
  rw [← nat_back ir] at f
  have t7 : tBl (d2 gIsN (dCall F__law_row (aCons (dVar 0) (aCons (dVar 6) (aCons (dVar 1) (aCons (dVar 3) aNil))))) (dC .non)) F = some (e6 P W t r) := bl_of (d2_of (call_of (a_cons rfl (a_cons rfl (a_two rfl rfl))) f) rfl (isN_opt _))
  cases c6 : e6 P W t r with
  | true =>
    rw [c6] at t7 hv
    rw [if_pos rfl] at hv
    rw [if_pos (bd _ hv)]
    exact seq g1 (seq (sifF t2 rfl) (seq loop (seq (sifF t4 rfl) (seq (sifF t5 rfl) (seq (sifF t6 rfl) (seqR (sifT t7 (rt_ _ _ hv))))))))
  | false =>
    rw [c6] at t7 hv
    rw [if_neg Bool.false_ne_true] at hv
    have nb : bad P W t X k = false := by
      unfold bad
      rw [hv] <;> rfl
    rw [nb, if_neg Bool.false_ne_true]
    have pl : pre.flatten.length ≤ 200 := by
      rw [List.length_flatten]
      have : (pre.map List.length).sum ≤ pre.length * 20 := sum_le List.length 20 pre fun s hs => hr s (List.mem_of_mem_take hs)
      have h2 : pre.length ≤ 10 := by
        show (X.take k).length ≤ 10
        rw [List.length_take]
        omega
      omega
    refine ⟨.dat (lstI r), s7', seq g1 (seq (sifF t2 rfl) (seq loop (seq (sifF t4 rfl) (seq (sifF t5 rfl) (seq (sifF t6 rfl) (seq (sifF t7 rfl) ?_))))))⟩
    refine (set_of (d2_of (x := lstI pre.flatten) (y := lstI r) rfl rfl (addB_lst (by rw [List.length_map, List.length_map]; omega)))).trans ?_
    have e : pre.flatten.map D.int ++ r.map D.int = ((X.take (k + 1)).flatten).map D.int := by
      rw [take_snoc (getD_in2 hk), List.flatten_append, List.flatten_cons, List.flatten_nil, List.append_nil, List.map_append]
    rw [e] <;> rfl
theorem lawI_ok {P : List Pc} {W : Nat} {t : Bool} {X : List Rw} (hP : P.length ≤ 5) (hX : X.length ≤ 10) (hr : ∀ r ∈ X, r.length ≤ 20) : ∃ d, F__law_flaw [lsD P, natD W, cutI X, .bl t] = some d ∧ Ans P W t X d := by
  let E : Nat → Sl → Sl → Sl → En := fun k s5 s6 s7 => [.dat (lsD P), .dat (natD W), .dat (cutI X), .dat (.bl t), .dat (lstI (X.take k).flatten), s5, s6, s7, .no]
  have g0 : sSet 4 (dL (lLst aNil)) [.dat (lsD P), .dat (natD W), .dat (cutI X), .dat (.bl t), .no, .no, .no, .no, .no] = some (.nx (E 0 .no .no .no)) := rfl
  have it : iR1 (aCons (dCB gLen (aCons (dVar 2) aNil)) aNil) (E 0 .no .no .no) = some ((List.range' 0 X.length).map natD) := by
    rw [← List.range_eq_range']
    exact range0_nat (a_one (len_cut X rfl)) (by omega)
  have r := for_first (gd := gSet 5) (g := gTurn) (fun k en => ∃ s5 s6 s7, en = E k s5 s6 s7) (bad P W t X) (valV P W t X) X.length (fun k hk hb en hI => by
      obtain ⟨s5, s6, s7, rfl⟩ := hI
      have e := turnI_ok (W := W) (t := t) hP hX hr hk (fun j hj => isN_of (hb j hj)) s6 s7
      refine ⟨E k (.dat (natD k)) s6 s7, rfl, ?_⟩
      cases c : bad P W t X k with
      | true =>
        rw [c, if_pos rfl] at e
        rw [if_pos rfl]
        exact e
      | false =>
        rw [c, if_neg Bool.false_ne_true] at e
        rw [if_neg Bool.false_ne_true]
        obtain ⟨t6, t7, e⟩ := e
        exact ⟨_, e, _, _, _, rfl⟩) X.length 0 (E 0 .no .no .no) (by omega) (fun j hj => absurd hj (Nat.not_lt_zero _)) ⟨_, _, _, rfl⟩
  rcases r with ⟨j, a1, a2, a3, r⟩ | ⟨a, en', r, s5, s6, s7, rfl⟩
  · refine ⟨valV P W t X j, run_rt rfl (seq g0 (seqR ?_)), .inl ⟨j, a1, a2, a3, rfl⟩⟩
    show (iR1 _ (E 0 .no .no .no)).bind _ = _
    rw [it]
    exact r
  · have g : sFor (iR1 (aCons (dCB gLen (aCons (dVar 2) aNil)) aNil)) (gSet 5) gTurn (E 0 .no .no .no) = some (.nx (E X.length s5 s6 s7)) := by
      show (iR1 _ (E 0 .no .no .no)).bind _ = _
      rw [it]
      exact r
    have ls : dCB gLen (aCons (dVar 4) aNil) (E X.length s5 s6 s7) = some (natD X.flatten.length) := by
      refine cb_of (a_one rfl) ?_
      show some (D.int (((X.take X.length).flatten.map D.int).length : Int)) = _
      rw [List.take_length, List.length_map] <;> rfl
    have t9 : tBl (d2 gLt (dCB gLen (aCons (dVar 4) aNil)) (dCB gLen (aCons (dVar 0) aNil))) (E X.length s5 s6 s7) = some (decide (X.flatten.length < P.length)) := by
      refine (bl_of (d2_of ls (cb_of (a_one rfl) (lenS_ls P)) rfl)).trans ?_
      congr 1
      exact decide_eq_decide.mpr (by omega)
    refine ⟨endV P X, ?_, .inr ⟨a, rfl⟩⟩
    unfold endV
    by_cases c : X.flatten.length < P.length
    · rw [decide_eq_true c] at t9
      rw [if_pos c]
      exact run_rt rfl (seq g0 (seq g (seqR (sifT t9 (ret_of (tup_of (a_two (len_cut X rfl) rfl)))))))
    · rw [decide_eq_false c] at t9
      rw [if_neg c]
      exact run_rt rfl (seq g0 (seq g (seq (sifF t9 rfl) rfl)))
theorem deep_strV (s : Str) (h : PyData.strOk s = true) : deep 59 (.str s) = true := by
  rw [deep_str]
  exact h
theorem ans_deep {P : List Pc} {W : Nat} {t : Bool} {X : List Rw} {d : D} (h : Ans P W t X d) : deep 60 d = true := by
  rcases h with ⟨j, _, _, _, rfl⟩ | ⟨_, rfl⟩
  · refine deep_tup.mpr fun d hd => ?_
    rcases List.mem_cons.mp hd with rfl | hd
    · exact deep_int
    rw [List.mem_singleton.mp hd]
    unfold vd
    dsimp only
    split
    · exact deep_strV _ (by decide +kernel)
    split
    · exact deep_strV _ (by decide +kernel)
    split
    · exact deep_strV _ (by decide +kernel)
    split
    · exact deep_strV _ (by decide +kernel)
    split
    · exact deep_strV _ (by decide +kernel)
    split
    · exact deep_strV _ (by decide +kernel)
    · simp [deep]
  · unfold endV
    split
    · refine deep_tup.mpr fun d hd => ?_
      rcases List.mem_cons.mp hd with rfl | hd
      · exact deep_int
      rw [List.mem_singleton.mp hd]
      exact deep_strV _ (by decide +kernel)
    · simp [deep]
theorem both_ok {P : List Pc} {W : Nat} {t : Bool} {X : List Rw} (hP : P.length ≤ 5) (hX : X.length ≤ 10) (hr : ∀ r ∈ X, r.length ≤ 20) : ∃ d, F_flaw_of_cutting [lsD P, natD W, cutI X, .bl t] = some d ∧ F__law_flaw [lsD P, natD W, cutI X, .bl t] = some d ∧ deep 60 d = true := by
  obtain ⟨d, h1, h2⟩ := flawI_ok (W := W) (t := t) hP hX hr
  obtain ⟨d', h3, h4⟩ := lawI_ok (W := W) (t := t) hP hX hr
  have := ans_one h2 h4
  subst this
  exact ⟨d, h1, h3, ans_deep h2⟩
end G

namespace G
open PySem DD C L2
theorem mul_natL {a b : Nat} (ha : a ≤ 16 ^ 12) : gMulI (natD a) (natD b) = some (natD (a * b)) := gMul_l (show Nat.ble _ _ = true from Nat.ble_eq.mpr (Nat.le_trans ha (by decide)))
theorem draw_ok2 (ns : List Int) (k : Nat) (sizes : List Int) (hk : k ≤ 1000) (hs : ∀ z ∈ sizes, 0 < z ∧ z ≤ 1000) (hl : sizes.length ≤ 100) : ∃ ds : List Int, F__law_draw [.lst (ns.map D.int), .int k, .lst (sizes.map D.int)] = some (.lst (ds.map D.int)) ∧ ds.length = sizes.length ∧ Below sizes ds := by
  suffices h : ∃ ds : List Int, g__law_draw (entry 8 [.lst (ns.map D.int), .int k, .lst (sizes.map D.int)]) = some (.rt (.lst (ds.map D.int))) ∧ ds.length = sizes.length ∧ Below sizes ds by
    obtain ⟨ds, h1, h2⟩ := h
    exact ⟨ds, run_rt rfl h1, h2⟩
  unfold g__law_draw
  have hc : ∃ c0 : Int, sIf (tBl (d2 gLt (dVar 3) (dC (.int 0)))) (sSet 3 (d1 gNeg (dVar 3))) sNil [.dat (.lst (ns.map D.int)), .dat (.int k), .dat (.lst (sizes.map D.int)), .dat (.int (ns.getD k 0)), .no, .no, .no, .no] = some (.nx [.dat (.lst (ns.map D.int)), .dat (.int k), .dat (.lst (sizes.map D.int)), .dat (.int c0), .no, .no, .no, .no]) := by
    by_cases h : ns.getD k 0 < 0
    · exact ⟨_, sifT (by simp at h; simp [h]) (by simp <;> rfl)⟩
    · exact ⟨_, sifF (by simp at h; simp [h]) rfl⟩
  obtain ⟨c0, hc⟩ := hc
  by_cases hbig : (1000000000000000000 : Int) ≤ c0
  · obtain ⟨en', h1, h2⟩ := sfor (fi := iAny (dVar 2)) (gd := gSet 7) (g := sSeq (sApp 4 (d2 gMod (dVar 3) (dVar 7))) (sSet 3 (d2 gFdiv (dVar 3) (dVar 7))))
      (en := [.dat (.lst (ns.map D.int)), .dat (.int k), .dat (.lst (sizes.map D.int)), .dat (.int (c0 - 1000000000000000000)), .own [], .no, .no, .no]) (sizes.map D.int) (by simp)
      (fun i en => ∃ (c : Int) (s7 : Sl) (ds : List Int), en = [.dat (.lst (ns.map D.int)), .dat (.int k), .dat (.lst (sizes.map D.int)), .dat (.int c), .own (ds.map D.int), .no, .no, s7] ∧ ds.length = i ∧ Below sizes ds)
      ⟨_, _, [], rfl, rfl, fun i a b h => by simp at h⟩ (fun i d en hd hI => by
        obtain ⟨c, s7, ds, rfl, hi, hB⟩ := hI
        obtain ⟨z, rfl, hz⟩ := int_get hd
        obtain ⟨z0, z1⟩ := hs z (List.mem_of_getElem? hz)
        have hlen : ds.length < sizes.length := by have := (List.getElem?_eq_some_iff.mp hz).1; omega
        have hlim : ds.length ≤ lim := by show ds.length ≤ 1000000; omega
        refine ⟨_, [.dat (.lst (ns.map D.int)), .dat (.int k), .dat (.lst (sizes.map D.int)), .dat (.int (c / z)), .own ((ds ++ [c % z]).map D.int), .no, .no, .dat (.int z)], rfl, .inl ?_, ⟨_, _, ds ++ [c % z], rfl, by simp [hi], hB.snoc (b := z) (by rw [hi]; exact hz) (Int.emod_nonneg _ (by omega)) (Int.emod_lt_of_pos _ z0)⟩⟩
        refine seq (by simp [z0]; exact ⟨hlim, rfl⟩) ?_
        simp [z0]
        omega)
    obtain ⟨c, s7, ds, rfl, hi, hB⟩ := h2
    refine ⟨ds, seq (by simp [cell_ok] <;> rfl) (seq (by simpa using hc) (seq (by simp <;> rfl) (seqR (sifT (by simp [hbig]) (seq (by simp <;> rfl) (seq h1 (by simp))))))), by simpa using hi, hB⟩
  · obtain ⟨en', h1, h2⟩ := sfor (fi := iR1 (aCons (dCB gLen (aCons (dVar 2) aNil)) aNil)) (gd := gSet 6) (g := sSeq (sSet 5 (d2 gMod (d2 gAdd (d2 gAdd (d2 gMulI (dVar 5) (dC (.int 48271))) (dC (.int 11))) (dVar 6)) (dC (.int 2147483647))))
       (sSeq (sSet 5 (d2 gMod (d2 gAdd (d2 gMulI (dVar 5) (dC (.int 69621))) (dC (.int 3))) (dC (.int 2147483647)))) (sApp 4 (d2 gMod (d2 gFdiv (dVar 5) (dC (.int 7))) (d2 gIx (dVar 2) (dVar 6))))))
      (en := [.dat (.lst (ns.map D.int)), .dat (.int k), .dat (.lst (sizes.map D.int)), .dat (.int c0), .own [], .dat (.int ((c0 + 1 + 31 * k) % 2147483647)), .no, .no]) (rngD 0 1 sizes.length) (by
        simp
        omega)
      (fun i en => ∃ (m : Int) (s6 : Sl) (ds : List Int), en = [.dat (.lst (ns.map D.int)), .dat (.int k), .dat (.lst (sizes.map D.int)), .dat (.int c0), .own (ds.map D.int), .dat (.int m), s6, .no] ∧ ds.length = i ∧ Below sizes ds)
      ⟨_, _, [], rfl, rfl, fun i a b h => by simp at h⟩ (fun i d en hd hI => by
        obtain ⟨m, s6, ds, rfl, hi, hB⟩ := hI
        obtain ⟨hlt, rfl⟩ := rngD_get hd
        obtain ⟨z, hz⟩ : ∃ z, sizes[i]? = some z := ⟨_, List.getElem?_eq_getElem hlt⟩
        obtain ⟨z0, z1⟩ := hs z (List.mem_of_getElem? hz)
        have hlim : ds.length ≤ lim := by show ds.length ≤ 1000000; omega
        have e0 : (0 : Int) + (i : Int) * 1 = (i : Int) := by omega
        rw [e0]
        generalize hm1 : ((m * 48271 + 11 + (i : Int)) % 2147483647 * 69621 + 3) % 2147483647 = m1
        refine ⟨_, [.dat (.lst (ns.map D.int)), .dat (.int k), .dat (.lst (sizes.map D.int)), .dat (.int c0), .own ((ds ++ [m1 / 7 % z]).map D.int), .dat (.int m1), .dat (.int i), .no], rfl, .inl ?_, ⟨_, _, ds ++ [m1 / 7 % z], rfl, by simp [hi], hB.snoc (b := z) (by rw [hi]; exact hz) (Int.emod_nonneg _ (by omega)) (Int.emod_lt_of_pos _ z0)⟩⟩
        refine seq (by simp <;> rfl) (seq (by simp <;> rfl) ?_)
        simp [atI_map, hz, z0, hm1]
        exact hlim)
    obtain ⟨m, s6, ds, rfl, hi, hB⟩ := h2
    refine ⟨ds, seq (by simp [cell_ok] <;> rfl) (seq (by simpa using hc) (seq (by simp <;> rfl) (seq (sifF (by simp [hbig]) rfl) (seq (by simp <;> exact ⟨by omega, rfl⟩) (seq h1 (by simp)))))), by simpa [rngD_len] using hi, hB⟩

theorem law_pieces_ok (ns : List Int) (k many : Nat) (hk : k ≤ 900) (hm : many ≤ 50) : ∃ (ps : List Pc) (w : Nat), F__law_pieces [scrD ns, natD k, natD many] = some (.tup [lsD ps, natD w]) ∧ ps.length = many ∧ (∀ p ∈ ps, p.1 ≤ 1000 ∧ p.2 ≤ 1000) ∧ w ≤ 2000 := by
  obtain ⟨hs, eh, hl, hB⟩ := draw_ok ns k [4, 40] (by omega) (fun q hq => by
    simp only [List.mem_cons, List.not_mem_nil, or_false] at hq
    omega) (by decide)
  obtain ⟨h0, q0, _⟩ := below_at hB hl (i := 0) (b := 4) rfl
  obtain ⟨h1, q1, hh1⟩ := below_at hB hl (i := 1) (b := 40) rfl
  let S : Sl := .dat (scrD ns)
  let Hd : Sl := .dat (.lst (hs.map D.int))
  let p3 : En → Option Out := sSet 3 (dCall F__law_draw (aCons (dVar 0) (aCons (dVar 1) (aCons (dL (lLst (aCons (dC (.int 4)) (aCons (dC (.int 40)) aNil)))) aNil))))
  have g3 : p3 [S, .dat (natD k), .dat (natD many), .no, .no, .no, .no, .no, .no, .no] = some (.nx [S, .dat (natD k), .dat (natD many), Hd, .no, .no, .no, .no, .no, .no]) := set_of (call_of (a_cons rfl (a_two rfl rfl)) eh)
  let c7 : En → Option Out := sSet 7 (dCall F__law_draw (aCons (dVar 0) (aCons (d2 gAdd (d2 gAdd (dVar 1) (dC (.int 1))) (d2 gMod (dVar 5) (dC (.int 5)))) (aCons (dL (lLst (aCons (dC (.int 12)) (aCons (dC (.int 12)) (aCons (dC (.int 1000)) (aCons (dC (.int 1000)) aNil)))))) aNil))))
  let c8 : En → Option Out := sSet 8 (d2 gAdd (dC (.int 1)) (d2 gMod (d2 gAdd (d2 gIx (dVar 7) (dC (.int 0))) (dVar 5)) (dC (.int 12))))
  let c9 : En → Option Out := sSet 9 (d2 gAdd (dC (.int 1)) (d2 gMod (d2 gAdd (d2 gIx (dVar 7) (dC (.int 1))) (d2 gMulI (dC (.int 2)) (dVar 5))) (dC (.int 12))))
  let d8 : En → Option Out := sSet 8 (d2 gAdd (dC (.int 1)) (d2 gMod (d2 gAdd (d2 gIx (dVar 7) (dC (.int 2))) (d2 gMulI (dC (.int 77)) (dVar 5))) (dC (.int 1000))))
  let d9 : En → Option Out := sSet 9 (d2 gAdd (dC (.int 1)) (d2 gMod (d2 gAdd (d2 gIx (dVar 7) (dC (.int 3))) (d2 gMulI (dC (.int 31)) (dVar 5))) (dC (.int 1000))))
  let ca : En → Option Out := sIf (tBl (d2 gEq (d2 gIx (dVar 3) (dC (.int 0))) (dC (.int 0)))) (sSeq d8 d9) sNil
  let cb : En → Option Out := sApp 4 (dTup (aCons (dVar 8) (aCons (dVar 9) aNil)))
  obtain ⟨en', g5, ps, s5, s7, s8, s9, rfl, pl, pb⟩ := for_of (fi := iR1 (aCons (dVar 2) aNil)) (gd := gSet 5) (g := sSeq c7 (sSeq c8 (sSeq c9 (sSeq ca cb)))) (en := [S, .dat (natD k), .dat (natD many), Hd, .own [], .no, .no, .no, .no, .no]) (List.range many) natD (range0_nat rfl (by omega))
    (fun i en => ∃ ps s5 s7 s8 s9, en = [S, .dat (natD k), .dat (natD many), Hd, .own (ps.map C.prD), s5, .no, s7, s8, s9] ∧ ps.length = i ∧ (∀ p ∈ ps, p.1 ≤ 1000 ∧ p.2 ≤ 1000)) ⟨[], _, _, _, _, rfl, rfl, fun _ h => nomatch h⟩ (fun i j en hj hI => by
      obtain ⟨ps, s5, s7, s8, s9, rfl, pl, pb⟩ := hI
      have hi := (List.getElem?_eq_some_iff.mp hj).1
      rw [List.length_range] at hi
      have hj5 : j < many := List.mem_range.mp (mem_at hj)
      obtain ⟨ds, ed, dl, dB⟩ := draw_ok2 ns (k + 1 + j % 5) [12, 12, 1000, 1000] (by omega) (fun q hq => by
        simp only [List.mem_cons, List.not_mem_nil, or_false] at hq
        omega) (by decide)
      obtain ⟨a0, r0, _⟩ := below_at dB dl (i := 0) (b := 12) rfl
      obtain ⟨a1, r1, _⟩ := below_at dB dl (i := 1) (b := 12) rfl
      obtain ⟨a2, r2, _⟩ := below_at dB dl (i := 2) (b := 1000) rfl
      obtain ⟨a3, r3, _⟩ := below_at dB dl (i := 3) (b := 1000) rfl
      let Dg : Sl := .dat (.lst (ds.map D.int))
      let E : Sl → Sl → En := fun s8 s9 => [S, .dat (natD k), .dat (natD many), Hd, .own (ps.map C.prD), .dat (natD j), .no, Dg, s8, s9]
      have e7 : c7 [S, .dat (natD k), .dat (natD many), Hd, .own (ps.map C.prD), .dat (natD j), .no, s7, s8, s9] = some (.nx (E s8 s9)) := set_of (call_of (a_cons rfl (a_two (d2_of (x := natD (k + 1)) (y := natD (j % 5)) rfl (d2_of (y := natD 5) rfl rfl (modN j 5 (by decide))) rfl) rfl)) ed)
      have e8 : c8 (E s8 s9) = some (.nx (E (.dat (natD (1 + (a0 + j) % 12))) s9)) := set_of (d2_of (y := natD ((a0 + j) % 12)) rfl (d2_of (x := natD (a0 + j)) (y := natD 12) (d2_of (d2_of (y := natD 0) rfl rfl (at_ints r0)) rfl rfl) rfl (modN _ 12 (by decide))) rfl)
      have e9 : c9 (E (.dat (natD (1 + (a0 + j) % 12))) s9) = some (.nx (E (.dat (natD (1 + (a0 + j) % 12))) (.dat (natD (1 + (a1 + 2 * j) % 12))))) := set_of (d2_of (y := natD ((a1 + 2 * j) % 12)) rfl (d2_of (x := natD (a1 + 2 * j)) (y := natD 12) (d2_of (y := natD (2 * j)) (d2_of (y := natD 1) rfl rfl (at_ints r1)) (d2_of rfl rfl (mul2 j)) rfl) rfl (modN _ 12 (by decide))) rfl)
      obtain ⟨x, y, ea, bx, by_⟩ : ∃ x y, ca (E (.dat (natD (1 + (a0 + j) % 12))) (.dat (natD (1 + (a1 + 2 * j) % 12)))) = some (.nx (E (.dat (natD x)) (.dat (natD y)))) ∧ x ≤ 1000 ∧ y ≤ 1000 := by
        have t : tBl (d2 gEq (d2 gIx (dVar 3) (dC (.int 0))) (dC (.int 0))) (E (.dat (natD (1 + (a0 + j) % 12))) (.dat (natD (1 + (a1 + 2 * j) % 12)))) = some (decide (h0 = 0)) := bl_of (d2_of (y := natD 0) (d2_of (y := natD 0) rfl rfl (at_ints q0)) rfl (eq_nat h0 0))
        by_cases c : h0 = 0
        · rw [decide_eq_true c] at t
          refine ⟨1 + (a2 + 77 * j) % 1000, 1 + (a3 + 31 * j) % 1000, sifT t (seq (en' := E (.dat (natD (1 + (a2 + 77 * j) % 1000))) (.dat (natD (1 + (a1 + 2 * j) % 12)))) ?_ ?_), by have := Nat.mod_lt (a2 + 77 * j) (show 0 < 1000 by omega); omega, by have := Nat.mod_lt (a3 + 31 * j) (show 0 < 1000 by omega); omega⟩
          · exact set_of (d2_of (y := natD ((a2 + 77 * j) % 1000)) rfl (d2_of (x := natD (a2 + 77 * j)) (y := natD 1000) (d2_of (y := natD (77 * j)) (d2_of (y := natD 2) rfl rfl (at_ints r2)) (d2_of (x := natD 77) rfl rfl (mul_natL (by decide))) rfl) rfl (modN _ 1000 (by decide))) rfl)
          · exact set_of (d2_of (y := natD ((a3 + 31 * j) % 1000)) rfl (d2_of (x := natD (a3 + 31 * j)) (y := natD 1000) (d2_of (y := natD (31 * j)) (d2_of (y := natD 3) rfl rfl (at_ints r3)) (d2_of (x := natD 31) rfl rfl (mul_natL (by decide))) rfl) rfl (modN _ 1000 (by decide))) rfl)
        · rw [decide_eq_false c] at t
          exact ⟨_, _, sifF t rfl, by have := Nat.mod_lt (a0 + j) (show 0 < 12 by omega); omega, by have := Nat.mod_lt (a1 + 2 * j) (show 0 < 12 by omega); omega⟩
      have eb : cb (E (.dat (natD x)) (.dat (natD y))) = some (.nx [S, .dat (natD k), .dat (natD many), Hd, .own ((ps ++ [(x, y)]).map C.prD), .dat (natD j), .no, Dg, .dat (natD x), .dat (natD y)]) := by
        refine (app_of (d := C.prD (x, y)) (tup_of (a_two rfl rfl)) rfl (by rw [List.length_map]; omega)).trans ?_
        rw [List.map_append] <;> rfl
      exact ⟨_, _, rfl, .inl (seq e7 (seq e8 (seq e9 (seq ea eb)))), ps ++ [(x, y)], _, _, _, _, rfl, by rw [List.length_append, pl] <;> rfl, fun p hp => (List.mem_append.mp hp).elim (pb p) fun h => by rw [List.mem_singleton.mp h]; exact ⟨bx, by_⟩⟩)
  rw [List.length_range] at pl
  let E : Sl → En := fun s6 => [S, .dat (natD k), .dat (natD many), Hd, .own (ps.map C.prD), s5, s6, s7, s8, s9]
  have v0 : ∀ s6, d2 gIx (dVar 3) (dC (.int 0)) (E s6) = some (natD h0) := fun _ => d2_of (y := natD 0) rfl rfl (at_ints q0)
  have v1 : ∀ s6, d2 gIx (dVar 3) (dC (.int 1)) (E s6) = some (natD h1) := fun _ => d2_of (y := natD 1) rfl rfl (at_ints q1)
  have g6 : sSet 6 (d2 gAdd (dC (.int 12)) (d2 gIx (dVar 3) (dC (.int 1)))) (E .no) = some (.nx (E (.dat (natD (12 + h1))))) := set_of (d2_of (x := natD 12) rfl (v1 _) rfl)
  obtain ⟨w1, g7, b7⟩ : ∃ w1, sIf (tBl (d2 gEq (d2 gIx (dVar 3) (dC (.int 0))) (dC (.int 0)))) (sSet 6 (d2 gAdd (dC (.int 1000)) (d2 gMulI (dC (.int 25)) (d2 gIx (dVar 3) (dC (.int 1)))))) sNil (E (.dat (natD (12 + h1)))) = some (.nx (E (.dat (natD w1)))) ∧ w1 ≤ 2000 := by
    have t : tBl (d2 gEq (d2 gIx (dVar 3) (dC (.int 0))) (dC (.int 0))) (E (.dat (natD (12 + h1)))) = some (decide (h0 = 0)) := bl_of (d2_of (y := natD 0) (v0 _) rfl (eq_nat h0 0))
    by_cases c : h0 = 0
    · rw [decide_eq_true c] at t
      exact ⟨1000 + 25 * h1, sifT t (set_of (d2_of (x := natD 1000) (y := natD (25 * h1)) rfl (d2_of (x := natD 25) rfl (v1 _) (mul_natL (by decide))) rfl)), by omega⟩
    · rw [decide_eq_false c] at t
      exact ⟨_, sifF t rfl, by omega⟩
  obtain ⟨w2, g8, b8⟩ : ∃ w2, sIf (tBl (d2 gEq (d2 gIx (dVar 3) (dC (.int 0))) (dC (.int 1)))) (sSet 6 (d2 gAdd (dC (.int 4)) (d2 gMod (d2 gIx (dVar 3) (dC (.int 1))) (dC (.int 12))))) sNil (E (.dat (natD w1))) = some (.nx (E (.dat (natD w2)))) ∧ w2 ≤ 2000 := by
    have t : tBl (d2 gEq (d2 gIx (dVar 3) (dC (.int 0))) (dC (.int 1))) (E (.dat (natD w1))) = some (decide (h0 = 1)) := bl_of (d2_of (y := natD 1) (v0 _) rfl (eq_nat h0 1))
    by_cases c : h0 = 1
    · rw [decide_eq_true c] at t
      exact ⟨4 + h1 % 12, sifT t (set_of (d2_of (x := natD 4) (y := natD (h1 % 12)) rfl (d2_of (y := natD 12) (v1 _) rfl (modN h1 12 (by decide))) rfl)), by have := Nat.mod_lt h1 (show 0 < 12 by omega); omega⟩
    · rw [decide_eq_false c] at t
      exact ⟨_, sifF t rfl, b7⟩
  exact ⟨ps, w2, run_rt rfl (seq g3 (seq rfl (seq g5 (seq g6 (seq g7 (seq g8 rfl)))))), pl, pb, b8⟩
end G
namespace G
open PySem DD C L2
theorem app_rows {R : List (List D)} {j : Nat} {d : D} (h : j < R.length) (hl : (R.getD j []).length ≤ 1000) : appT1 (rowsT R) (j : Int) d = some (rowsT (R.set j (R.getD j [] ++ [d]))) := by
  unfold appT1 rowsT
  show (ixN (R.map fun r : List D => DD.Tr.ls (r.map DD.Tr.lf)).length (j : Int)).bind _ = _
  rw [ixN_nat (by rw [List.length_map]; exact h)]
  have e : (R.map fun r : List D => DD.Tr.ls (r.map DD.Tr.lf))[j]? = some (DD.Tr.ls ((R.getD j []).map DD.Tr.lf)) := by
    rw [List.getElem?_map, List.getD_eq_getElem?_getD, List.getElem?_eq_getElem h] <;> rfl
  show (match (R.map fun r : List D => DD.Tr.ls (r.map DD.Tr.lf))[j]? with
    | some (.ls us) => if us.length ≤ lim then some (DD.Tr.ls ((R.map fun r : List D => DD.Tr.ls (r.map DD.Tr.lf)).set j (.ls (us ++ [DD.Tr.lf d])))) else none
    | _ => none) = _
  rw [e]
  show (if ((R.getD j []).map DD.Tr.lf).length ≤ lim then some (DD.Tr.ls ((R.map fun r : List D => DD.Tr.ls (r.map DD.Tr.lf)).set j (.ls ((R.getD j []).map DD.Tr.lf ++ [DD.Tr.lf d])))) else none) = _
  rw [if_pos (by rw [List.length_map]; exact lim_of hl), List.map_set, List.map_append] <;> rfl
theorem dAll_lfB : ∀ ds : List D, DD.Tr.dAll (ds.map .lf) = some ds
  | [] => by rw [List.map_nil, DD.Tr.dAll]
  | d :: ds => by rw [List.map_cons, DD.Tr.dAll, DD.Tr.d, dAll_lfB ds] <;> rfl
theorem dAll_rowsB : ∀ rows : List (List D), DD.Tr.dAll (rows.map fun r : List D => DD.Tr.ls (r.map .lf)) = some (rows.map .lst)
  | [] => by rw [List.map_nil, DD.Tr.dAll] <;> rfl
  | r :: rows => by
    rw [List.map_cons, DD.Tr.dAll, DD.Tr.d, dAll_lfB r, dAll_rowsB rows] <;> rfl
theorem rowsT_d (R : List (List D)) : (rowsT R).d = some (.lst (R.map .lst)) := by
  unfold rowsT
  rw [DD.Tr.d, dAll_rowsB] <;> rfl
theorem alike_intsI : ∀ a b : Rw, PySem.W.alikeAll (pyAll (a.map D.int)) (pyAll (b.map D.int)) = true
  | [], b => by simp [pyAll, PySem.W.alikeAll]
  | x :: a, [] => by simp [pyAll, PySem.W.alikeAll]
  | x :: a, y :: b => by
    rw [List.map_cons, List.map_cons, pyAll, pyAll, PySem.W.alikeAll, alike_intsI a b]
    simp [py, PySem.W.alike]
theorem srtOk_lists (G : List Rw) : srtOk (G.map lstI) = true := by
  unfold srtOk
  have dp : deepAll 58 (G.map lstI) = true := deepAll_iff.mpr fun d hd => by
    obtain ⟨z, _, rfl⟩ := List.mem_map.mp hd
    refine deep_lst.mpr fun d hd => ?_
    obtain ⟨y, _, rfl⟩ := List.mem_map.mp hd
    exact deep_int
  have sh : (G.map lstI).all shpO = true := List.all_eq_true.mpr fun d hd => by
    obtain ⟨z, _, rfl⟩ := List.mem_map.mp hd
    rfl
  have al : ((G.map lstI).all fun d => (G.map lstI).all fun e => PySem.W.alike (py d) (py e)) = true := List.all_eq_true.mpr fun d hd => List.all_eq_true.mpr fun e he => by
    obtain ⟨z, _, rfl⟩ := List.mem_map.mp hd
    obtain ⟨y, _, rfl⟩ := List.mem_map.mp he
    show PySem.W.alike (py (.lst (z.map D.int))) (py (.lst (y.map D.int))) = true
    rw [py, py, PySem.W.alike]
    exact alike_intsI z y
  rw [dp, sh, al, Bool.or_true] <;> rfl
def kidT (r : Rw) : DD.Tr := .ls ((r.map D.int).map .lf)
def treR (R : List Rw) : DD.Tr := .ls (R.map kidT)
theorem treR_rows (R : List Rw) : treR R = rowsT (R.map fun r => r.map D.int) := by
  unfold treR rowsT
  rw [List.map_map] <;> rfl
theorem treR_d (R : List Rw) : (treR R).d = some (.lst (R.map lstI)) := by
  rw [treR_rows, rowsT_d, List.map_map] <;> rfl
theorem dAll_R (R : List Rw) : DD.Tr.dAll (R.map kidT) = some (R.map lstI) := by
  have := dAll_rowsB (R.map fun r => r.map D.int)
  rw [List.map_map, List.map_map] at this
  exact this
theorem thaw_R (R : List Rw) : Sl.thaw (.tre (treR R)) = .dat (.lst (R.map lstI)) := by
  show thawT (treR R) = _
  unfold thawT
  rw [treR_d] <;> rfl
theorem zip_R : ∀ R : List Rw, (R.map kidT).zip (R.map lstI) = R.map fun r => (kidT r, lstI r)
  | [] => rfl
  | r :: R => by
    rw [List.map_cons, List.map_cons, List.zip_cons_cons, zip_R R] <;> rfl
theorem treS_ok {en : En} {i j : Nat} {ft : En → Option Bool} {vs : List Nat} {R : List Rw} (b : Rw → Bool) (hi : en[i]? = some (.tre (treR R))) (hl : R.length ≤ 100) (hj : j < en.length) (hb : ∀ r ∈ R, keepT ft j vs en (lstI r) = some (b r)) :
    ∃ S : List Rw, sTreS i j ft vs en = some (.nx (en.set i (.tre (treR S)))) ∧ S.length ≤ R.length ∧ ∀ r ∈ S, r ∈ R := by
  let F := R.filter b
  let S := F.mergeSort fun x y => leD (lstI x) (lstI y)
  have e1 : (R.map fun r => (kidT r, lstI r)).filter (fun z => (keepT ft j vs en z.2).getD false) = F.map fun r => (kidT r, lstI r) := by
    rw [List.filter_map]
    congr 1
    refine List.filter_congr fun r hr => ?_
    show (keepT ft j vs en (lstI r)).getD false = b r
    rw [hb r hr] <;> rfl
  have e2 : ((F.map fun r => (kidT r, lstI r)).mergeSort fun x y => leD x.2 y.2) = S.map fun r => (kidT r, lstI r) := (List.map_mergeSort (r := fun x y : Rw => leD (lstI x) (lstI y)) (s := fun x y : DD.Tr × D => leD x.2 y.2) (f := fun r : Rw => (kidT r, lstI r)) (fun _ _ _ _ => rfl)).symm
  refine ⟨S, ?_, ?_, fun r hr => (List.mem_filter.mp (List.mem_mergeSort.mp hr)).1⟩
  · unfold sTreS
    rw [hi]
    show ((DD.Tr.dAll (R.map kidT)).bind fun ds => if (((R.map kidT).zip ds).all fun z => (keepT ft j vs en z.2).isSome) = true ∧ srtOk ((((R.map kidT).zip ds).filter fun z => (keepT ft j vs en z.2).getD false).map (·.2)) = true ∧ ds.length ≤ lim ∧ j < en.length then
      some (Out.nx (en.set i (.tre (.ls (((((R.map kidT).zip ds).filter fun z => (keepT ft j vs en z.2).getD false).mergeSort fun x y => leD x.2 y.2).map (·.1)))))) else none) = _
    rw [dAll_R]
    show (if (((R.map kidT).zip (R.map lstI)).all fun z => (keepT ft j vs en z.2).isSome) = true ∧ srtOk ((((R.map kidT).zip (R.map lstI)).filter fun z => (keepT ft j vs en z.2).getD false).map (·.2)) = true ∧ (R.map lstI).length ≤ lim ∧ j < en.length then
      some (Out.nx (en.set i (.tre (.ls (((((R.map kidT).zip (R.map lstI)).filter fun z => (keepT ft j vs en z.2).getD false).mergeSort fun x y => leD x.2 y.2).map (·.1)))))) else none) = _
    rw [zip_R, e1, e2, List.map_map, List.map_map]
    rw [if_pos ⟨List.all_eq_true.mpr fun z hz => by
      obtain ⟨r, hr, rfl⟩ := List.mem_map.mp hz
      show (keepT ft j vs en (lstI r)).isSome = true
      rw [hb r hr] <;> rfl, srtOk_lists F, by rw [List.length_map]; exact lim_of (by omega), hj⟩] <;> rfl
  · show S.length ≤ R.length
    have := List.length_mergeSort (le := fun x y : Rw => leD (lstI x) (lstI y)) F
    have h2 := List.length_filter_le b R
    have h3 : S.length = F.length := this
    have h4 : F.length ≤ R.length := h2
    omega
theorem putK_ok {en : En} {i : Nat} {f1 : En → Option D} {F : En → Option (List D)} {R : List Rw} {j : Nat} {q : Rw} (hi : en[i]? = some (.tre (treR R))) (hj : j < R.length) (h1 : f1 (en.map Sl.thaw) = some (natD j)) (hF : F (en.map Sl.thaw) = some (q.map D.int)) :
    sPutK i f1 F en = some (.nx (en.set i (.tre (treR (R.set j q))))) := by
  unfold sPutK
  rw [hF]
  show ((f1 (en.map Sl.thaw)).bind fun a => match a, en[i]? with
    | .int z, some (.tre (.ls ts)) => if (q.map D.int).all D.flat = true then (ixN ts.length z).map fun m => Out.nx (en.set i (.tre (.ls (ts.set m (.ls ((q.map D.int).map .lf)))))) else none
    | _, _ => none) = _
  rw [h1, hi]
  show (if (q.map D.int).all D.flat = true then (ixN (R.map kidT).length (j : Int)).map fun m => Out.nx (en.set i (.tre (.ls ((R.map kidT).set m (.ls ((q.map D.int).map .lf)))))) else none) = _
  rw [if_pos (List.all_eq_true.mpr fun d hd => by
    obtain ⟨z, _, rfl⟩ := List.mem_map.mp hd
    rfl), ixN_nat (by rw [List.length_map]; exact hj)]
  show some (Out.nx (en.set i (.tre (.ls ((R.map kidT).set j (kidT q)))))) = _
  rw [← List.map_set] <;> rfl
end G

namespace G
open PySem DD C L2
abbrev gChain : En → Option Out := (sIf (tBl (d2 gEq (d2 gIx (dVar 6) (dC (.int 0))) (dC (.int 0)))) (fun en => (sSet 4 (dL (lRevL (dVar 4)))) (frz 4 en)) (sIf (tScal (tAnd2 (tBl (d2 gEq (d2 gIx (dVar 6) (dC (.int 0))) (dC (.int 1)))) (tBl (d2 gGt (dCB gLen (aCons (dVar 4) aNil)) (dC (.int 0)))))) (sApp1 4 (dScal (d2 gMod (d2 gIx (dVar 6) (dC (.int 1))) (dCB gLen (aCons (dVar 4) aNil)))) (d2 gSub (d2 gIx (dVar 6) (dC (.int 2))) (dC (.int 1)))) (sIf (tScal (tAnd2 (tBl (d2 gEq (d2 gIx (dVar 6) (dC (.int 0))) (dC (.int 2)))) (tBl (d2 gGt (dCB gLen (aCons (dVar 4) aNil)) (dC (.int 0)))))) (sPutK 4 (d2 gMod (d2 gIx (dVar 6) (dC (.int 1))) (dCB gLen (aCons (dVar 4) aNil))) (lRevL (d2 gIx (dVar 4) (d2 gMod (d2 gIx (dVar 6) (dC (.int 1))) (dCB gLen (aCons (dVar 4) aNil)))))) (sIf (tBl (d2 gEq (d2 gIx (dVar 6) (dC (.int 0))) (dC (.int 3)))) (fun en => (sSet 4 (dL (lCat (lCat (lCutL (dVar 4) oNo (oInt (d2 gIx (dVar 6) (dC (.int 1))))) (lLst (aCons (dL (lLst aNil)) aNil))) (lCutL (dVar 4) (oInt (d2 gIx (dVar 6) (dC (.int 1)))) oNo)))) (frz 4 en)) (sIf (tScal (tAnd2 (tBl (d2 gEq (d2 gIx (dVar 6) (dC (.int 0))) (dC (.int 4)))) (tBl (d2 gGt (dCB gLen (aCons (dVar 4) aNil)) (dC (.int 0)))))) (sPutK 4 (d2 gMod (d2 gIx (dVar 6) (dC (.int 1))) (dCB gLen (aCons (dVar 4) aNil))) (lCutL (d2 gIx (dVar 4) (d2 gMod (d2 gIx (dVar 6) (dC (.int 1))) (dCB gLen (aCons (dVar 4) aNil)))) (oInt (dC (.int 1))) oNo)) (sIf (tScal (tAnd2 (tBl (d2 gEq (d2 gIx (dVar 6) (dC (.int 0))) (dC (.int 5)))) (tBl (d2 gGt (dCB gLen (aCons (dVar 4) aNil)) (dC (.int 0)))))) (fun en => (sSet 4 (d2 gAddB (dVar 4) (dL (lLst (aCons (d2 gIx (dVar 4) (d2 gMod (d2 gIx (dVar 6) (dC (.int 1))) (dCB gLen (aCons (dVar 4) aNil)))) aNil))))) (frz 4 en)) (sIf (tBl (d2 gEq (d2 gIx (dVar 6) (dC (.int 0))) (dC (.int 6)))) (sSet 4 (dL (lLst (aCons (dL (lRg1 (dVar 2))) aNil)))) sNil)))))))
theorem scalB {f : En → Option D} {en : En} {d : D} (h : f (en.map Sl.thaw) = some d) (hf : d.flat = true) : dScal f en = some d := by
  show (f (en.map Sl.thaw)).bind _ = _
  rw [h]
  exact if_pos hf
theorem set_len {R : List Rw} {j n : Nat} {q : Rw} (h : ∀ r ∈ R, r.length ≤ n) (hq : q.length ≤ n) : ∀ r ∈ R.set j q, r.length ≤ n := fun r hr => by
  rcases List.mem_or_eq_of_mem_set hr with h1 | h1
  · exact h r h1
  · rw [h1]; exact hq
theorem chain_ok {S s1 s2 s3 s5 s7 s8 s9 s10 : Sl} {ds : List Int} {many c0 c1 c2 : Nat} {R : List Rw} (h2 : s2 = .dat (natD many)) (hm : many ≤ 5) (q0 : ds[0]? = some (c0 : Int)) (q1 : ds[1]? = some (c1 : Int)) (q2 : ds[2]? = some (c2 : Int)) (hR : R.length ≤ 3) (hr : ∀ r ∈ R, r.length ≤ 6)
    (t0 : S.thaw = S) (t1 : s1.thaw = s1) (t3 : s3.thaw = s3) (t5 : s5.thaw = s5) (t7 : s7.thaw = s7) (t8 : s8.thaw = s8) (t9 : s9.thaw = s9) (t10 : s10.thaw = s10) :
    ∃ (s4 : Sl) (R2 : List Rw), gChain [S, s1, s2, s3, .tre (treR R), s5, .dat (.lst (ds.map D.int)), s7, s8, s9, s10, .no] = some (.nx [S, s1, s2, s3, s4, s5, .dat (.lst (ds.map D.int)), s7, s8, s9, s10, .no]) ∧
      frz 4 [S, s1, s2, s3, s4, s5, .dat (.lst (ds.map D.int)), s7, s8, s9, s10, .no] = [S, s1, s2, s3, .dat (.lst (R2.map lstI)), s5, .dat (.lst (ds.map D.int)), s7, s8, s9, s10, .no] ∧ R2.length ≤ 10 ∧ ∀ r ∈ R2, r.length ≤ 20 := by
  subst h2
  let E : Sl → En := fun s4 => [S, s1, .dat (natD many), s3, s4, s5, .dat (.lst (ds.map D.int)), s7, s8, s9, s10, .no]
  let Q : List Rw → Sl := fun R => .dat (.lst (R.map lstI))
  have th : (E (.tre (treR R))).map Sl.thaw = E (Q R) := by
    show [S.thaw, s1.thaw, .dat (natD many), s3.thaw, Sl.thaw (.tre (treR R)), s5.thaw, .dat (.lst (ds.map D.int)), s7.thaw, s8.thaw, s9.thaw, s10.thaw, .no] = _
    rw [t0, t1, t3, thaw_R, t5, t7, t8, t9, t10] <;> rfl
  have fzT : ∀ R, frz 4 (E (.tre (treR R))) = E (Q R) := fun R => by
    unfold frz
    show (match Sl.thaw (.tre (treR R)) with
      | .dat d => _
      | _ => _) = _
    rw [thaw_R] <;> rfl
  have fzD : ∀ R, frz 4 (E (Q R)) = E (Q R) := fun R => rfl
  have v : ∀ (i c : Nat) (s : Sl), ds[i]? = some (c : Int) → d2 gIx (dVar 6) (dC (.int (i : Int))) (E s) = some (natD c) := fun i c s q => d2_of (y := natD i) rfl rfl (at_ints q)
  have T : ∀ (i : Nat) (s : Sl), tBl (d2 gEq (d2 gIx (dVar 6) (dC (.int 0))) (dC (.int (i : Int)))) (E s) = some (decide (c0 = i)) := fun i s => bl_of (d2_of (y := natD i) (v 0 c0 s q0) rfl (eq_nat c0 i))
  have ln : dCB gLen (aCons (dVar 4) aNil) (E (Q R)) = some (natD R.length) := by
    refine cb_of (a_one rfl) ?_
    show some (D.int ((R.map lstI).length : Int)) = _
    rw [List.length_map] <;> rfl
  have TL : ∀ i : Nat, tScal (tAnd2 (tBl (d2 gEq (d2 gIx (dVar 6) (dC (.int 0))) (dC (.int (i : Int))))) (tBl (d2 gGt (dCB gLen (aCons (dVar 4) aNil)) (dC (.int 0))))) (E (.tre (treR R))) = some (decide (c0 = i) && decide (0 < R.length)) := fun i => by
    show (tAnd2 (tBl (d2 gEq (d2 gIx (dVar 6) (dC (.int 0))) (dC (.int (i : Int))))) (tBl (d2 gGt (dCB gLen (aCons (dVar 4) aNil)) (dC (.int 0))))) ((E (.tre (treR R))).map Sl.thaw) = _
    rw [th]
    exact and_of (T i _) (bl_of (d2_of (y := natD 0) ln rfl (gt_nat _ 0)))
  have ix : 0 < R.length → d2 gMod (d2 gIx (dVar 6) (dC (.int 1))) (dCB gLen (aCons (dVar 4) aNil)) (E (Q R)) = some (natD (c1 % R.length)) := fun h => d2_of (v 1 c1 _ q1) ln (modN _ _ h)
  have jl : 0 < R.length → c1 % R.length < R.length := fun h => Nat.mod_lt _ h
  let j := c1 % R.length
  have at_ : 0 < R.length → d2 gIx (dVar 4) (d2 gMod (d2 gIx (dVar 6) (dC (.int 1))) (dCB gLen (aCons (dVar 4) aNil))) (E (Q R)) = some (lstI (R.getD j [])) := fun h => d2_of (x := .lst (R.map lstI)) rfl (ix h) (at_natL lstI R [] (jl h))
  have gm : 0 < R.length → (R.getD j []).length ≤ 6 := fun h => hr _ (mem_at (getD_in2 (jl h)))
  have hr20 : ∀ r ∈ R, r.length ≤ 20 := fun r h => by have := hr r h; omega
  have b20 : ∀ {q : Rw}, q.length ≤ 20 → ∀ r ∈ R.set j q, r.length ≤ 20 := fun {q} h => set_len hr20 h
  -- 0
  cases e0 : decide (c0 = 0) with
  | true =>
    have t := T 0 (.tre (treR R))
    rw [e0] at t
    refine ⟨Q R.reverse, R.reverse, sifT t ?_, fzD _, by rw [List.length_reverse]; omega, fun r h => hr20 r (List.mem_reverse.mp h)⟩
    show sSet 4 (dL (lRevL (dVar 4))) (frz 4 (E (.tre (treR R)))) = _
    rw [fzT]
    refine set_of (dL_of ?_)
    show some (R.map lstI).reverse = _
    rw [List.map_reverse]
  | false =>
  have f0 := T 0 (.tre (treR R))
  rw [e0] at f0
  cases e1 : (decide (c0 = 1) && decide (0 < R.length)) with
  | true =>
    have t := TL 1
    rw [e1] at t
    have h := of_decide_eq_true (Bool.and_eq_true _ _ ▸ e1 : _ ∧ _).2
    have eR : ((R.map fun r => r.map D.int).getD j []) = (R.getD j []).map D.int := by
      rw [List.getD_eq_getElem?_getD, List.getElem?_map, List.getD_eq_getElem?_getD, List.getElem?_eq_getElem (jl h)] <;> rfl
    have ap := app_rows (R := R.map fun r => r.map D.int) (j := j) (d := .int ((c2 : Int) - 1)) (by rw [List.length_map]; exact jl h) (by rw [eR, List.length_map]; have := gm h; omega)
    rw [eR] at ap
    refine ⟨.tre (treR (R.set j (R.getD j [] ++ [(c2 : Int) - 1]))), _, sifF f0 (sifT t ?_), fzT _, by rw [List.length_set]; omega, b20 (by rw [List.length_append, List.length_singleton]; have := gm h; omega)⟩
    have vi : dScal (d2 gMod (d2 gIx (dVar 6) (dC (.int 1))) (dCB gLen (aCons (dVar 4) aNil))) (E (.tre (treR R))) = some (natD j) := scalB (by rw [th]; exact ix h) rfl
    have vd_ : d2 gSub (d2 gIx (dVar 6) (dC (.int 2))) (dC (.int 1)) (E (.tre (treR R))) = some (.int ((c2 : Int) - 1)) := d2_of (v 2 c2 _ q2) rfl rfl
    show (dScal (d2 gMod (d2 gIx (dVar 6) (dC (.int 1))) (dCB gLen (aCons (dVar 4) aNil))) (E (.tre (treR R)))).bind _ = _
    rw [vi]
    show (d2 gSub (d2 gIx (dVar 6) (dC (.int 2))) (dC (.int 1)) (E (.tre (treR R)))).bind _ = _
    rw [vd_]
    show (appT1 (treR R) (j : Int) (.int ((c2 : Int) - 1))).map _ = _
    rw [treR_rows, ap]
    show some (Out.nx (E (.tre (rowsT ((R.map fun r => r.map D.int).set j ((R.getD j []).map D.int ++ [D.int ((c2 : Int) - 1)])))))) = _
    rw [show (R.getD j []).map D.int ++ [D.int ((c2 : Int) - 1)] = (R.getD j [] ++ [(c2 : Int) - 1]).map D.int by rw [List.map_append] <;> rfl, ← List.map_set, ← treR_rows]
  | false =>
  have f1 := TL 1
  rw [e1] at f1
  cases e2_ : (decide (c0 = 2) && decide (0 < R.length)) with
  | true =>
    have t := TL 2
    rw [e2_] at t
    have h := of_decide_eq_true (Bool.and_eq_true _ _ ▸ e2_ : _ ∧ _).2
    have pk := putK_ok (en := E (.tre (treR R))) (i := 4) (f1 := d2 gMod (d2 gIx (dVar 6) (dC (.int 1))) (dCB gLen (aCons (dVar 4) aNil))) (F := lRevL (d2 gIx (dVar 4) (d2 gMod (d2 gIx (dVar 6) (dC (.int 1))) (dCB gLen (aCons (dVar 4) aNil))))) (R := R) (j := j) (q := (R.getD j []).reverse) rfl (jl h) (by rw [th]; exact ix h) (by
      rw [th]
      show (d2 gIx (dVar 4) (d2 gMod (d2 gIx (dVar 6) (dC (.int 1))) (dCB gLen (aCons (dVar 4) aNil))) (E (Q R))).bind _ = _
      rw [at_ h, List.map_reverse] <;> rfl)
    exact ⟨.tre (treR (R.set j (R.getD j []).reverse)), _, sifF f0 (sifF f1 (sifT t pk)), fzT _, by rw [List.length_set]; omega, b20 (by rw [List.length_reverse]; have := gm h; omega)⟩
  | false =>
  have f2 := TL 2
  rw [e2_] at f2
  cases e3_ : decide (c0 = 3) with
  | true =>
    have t := T 3 (.tre (treR R))
    rw [e3_] at t
    refine ⟨Q (R.take c1 ++ [[]] ++ R.drop c1), _, sifF f0 (sifF f1 (sifF f2 (sifT t ?_))), fzD _, ?_, fun r h => ?_⟩
    · show sSet 4 (dL (lCat (lCat (lCutL (dVar 4) oNo (oInt (d2 gIx (dVar 6) (dC (.int 1))))) (lLst (aCons (dL (lLst aNil)) aNil))) (lCutL (dVar 4) (oInt (d2 gIx (dVar 6) (dC (.int 1)))) oNo))) (frz 4 (E (.tre (treR R)))) = _
      rw [fzT]
      have o : oInt (d2 gIx (dVar 6) (dC (.int 1))) (E (Q R)) = some (some (c1 : Int)) := by
        show (d2 gIx (dVar 6) (dC (.int 1)) (E (Q R))).bind _ = _
        rw [show d2 gIx (dVar 6) (dC (.int 1)) (E (Q R)) = some (natD c1) from v 1 c1 _ q1] <;> rfl
      have l1 : lCutL (dVar 4) oNo (oInt (d2 gIx (dVar 6) (dC (.int 1)))) (E (Q R)) = some ((R.take c1).map lstI) := by
        show ((oNo (E (Q R))).bind fun l => (oInt (d2 gIx (dVar 6) (dC (.int 1))) (E (Q R))).bind fun h => some (cutD (R.map lstI) l h)) = _
        rw [o]
        show some (cutD (R.map lstI) none (some (c1 : Int))) = _
        rw [cut_toT]
      have l2 : lCutL (dVar 4) (oInt (d2 gIx (dVar 6) (dC (.int 1)))) oNo (E (Q R)) = some ((R.drop c1).map lstI) := by
        show ((oInt (d2 gIx (dVar 6) (dC (.int 1))) (E (Q R))).bind fun l => (oNo (E (Q R))).bind fun h => some (cutD (R.map lstI) l h)) = _
        rw [o]
        show some (cutD (R.map lstI) (some (c1 : Int)) none) = _
        rw [cut_fromT]
      have l3 : lCat (lCutL (dVar 4) oNo (oInt (d2 gIx (dVar 6) (dC (.int 1))))) (lLst (aCons (dL (lLst aNil)) aNil)) (E (Q R)) = some ((R.take c1 ++ [[]]).map lstI) := by
        refine (lCat_some (ys := [lstI []]) l1 rfl (by rw [List.length_map, List.length_take]; show _ + 1 ≤ 1000; omega)).trans ?_
        rw [List.map_append] <;> rfl
      refine set_of (dL_of ((lCat_some l3 l2 (by rw [List.length_map, List.length_map, List.length_append, List.length_take, List.length_drop]; show _ + 1 + _ ≤ 1000; omega)).trans ?_))
      rw [← List.map_append]
    · rw [List.length_append, List.length_append, List.length_take, List.length_drop]
      show _ + 1 + _ ≤ 10
      omega
    · rcases List.mem_append.mp h with h | h
      · rcases List.mem_append.mp h with h | h
        · exact hr20 r (List.mem_of_mem_take h)
        · rw [List.mem_singleton.mp h]
          exact Nat.zero_le _
      · exact hr20 r (List.mem_of_mem_drop h)
  | false =>
  have f3 := T 3 (.tre (treR R))
  rw [e3_] at f3
  cases e4_ : (decide (c0 = 4) && decide (0 < R.length)) with
  | true =>
    have t := TL 4
    rw [e4_] at t
    have h := of_decide_eq_true (Bool.and_eq_true _ _ ▸ e4_ : _ ∧ _).2
    have pk := putK_ok (en := E (.tre (treR R))) (i := 4) (f1 := d2 gMod (d2 gIx (dVar 6) (dC (.int 1))) (dCB gLen (aCons (dVar 4) aNil))) (F := lCutL (d2 gIx (dVar 4) (d2 gMod (d2 gIx (dVar 6) (dC (.int 1))) (dCB gLen (aCons (dVar 4) aNil)))) (oInt (dC (.int 1))) oNo) (R := R) (j := j) (q := (R.getD j []).drop 1) rfl (jl h) (by rw [th]; exact ix h) (by
      rw [th]
      show (d2 gIx (dVar 4) (d2 gMod (d2 gIx (dVar 6) (dC (.int 1))) (dCB gLen (aCons (dVar 4) aNil))) (E (Q R))).bind _ = _
      rw [at_ h]
      show some (cutD ((R.getD j []).map D.int) (some ((1 : Nat) : Int)) none) = _
      rw [cut_fromT])
    exact ⟨.tre (treR (R.set j ((R.getD j []).drop 1))), _, sifF f0 (sifF f1 (sifF f2 (sifF f3 (sifT t pk)))), fzT _, by rw [List.length_set]; omega, b20 (by rw [List.length_drop]; have := gm h; omega)⟩
  | false =>
  have f4 := TL 4
  rw [e4_] at f4
  cases e5_ : (decide (c0 = 5) && decide (0 < R.length)) with
  | true =>
    have t := TL 5
    rw [e5_] at t
    have h := of_decide_eq_true (Bool.and_eq_true _ _ ▸ e5_ : _ ∧ _).2
    refine ⟨Q (R ++ [R.getD j []]), _, sifF f0 (sifF f1 (sifF f2 (sifF f3 (sifF f4 (sifT t ?_))))), fzD _, by rw [List.length_append, List.length_singleton]; omega, fun r h2 => ?_⟩
    · show sSet 4 (d2 gAddB (dVar 4) (dL (lLst (aCons (d2 gIx (dVar 4) (d2 gMod (d2 gIx (dVar 6) (dC (.int 1))) (dCB gLen (aCons (dVar 4) aNil)))) aNil)))) (frz 4 (E (.tre (treR R)))) = _
      rw [fzT]
      have l : lLst (aCons (d2 gIx (dVar 4) (d2 gMod (d2 gIx (dVar 6) (dC (.int 1))) (dCB gLen (aCons (dVar 4) aNil)))) aNil) (E (Q R)) = some [lstI (R.getD j [])] := by
        show (aCons (d2 gIx (dVar 4) (d2 gMod (d2 gIx (dVar 6) (dC (.int 1))) (dCB gLen (aCons (dVar 4) aNil)))) aNil (E (Q R))).bind _ = _
        rw [a_one (at_ h)] <;> rfl
      refine (set_of (d2_of (x := .lst (R.map lstI)) (y := .lst [lstI (R.getD j [])]) rfl (dL_of l) (addB_lst (by rw [List.length_map]; show _ + 1 ≤ 1000; omega)))).trans ?_
      rw [← List.map_singleton (f := lstI), ← List.map_append] <;> rfl
    · rcases List.mem_append.mp h2 with h3 | h3
      · exact hr20 r h3
      · rw [List.mem_singleton.mp h3]
        have := gm h
        omega
  | false =>
  have f5 := TL 5
  rw [e5_] at f5
  cases e6_ : decide (c0 = 6) with
  | true =>
    have t := T 6 (.tre (treR R))
    rw [e6_] at t
    refine ⟨Q [(List.range many).map fun (n : Nat) => (n : Int)], _, sifF f0 (sifF f1 (sifF f2 (sifF f3 (sifF f4 (sifF f5 (sifT t ?_)))))), fzD _, by show 1 ≤ 10; omega, fun r h => by
      rw [List.mem_singleton.mp h, List.length_map, List.length_range]
      omega⟩
    have l : lRg1 (dVar 2) (E (.tre (treR R))) = some ((List.range many).map natD) := by
      show (if (many : Int).natAbs ≤ 100000 then some (rngD 0 1 (many : Int).toNat) else none) = _
      rw [if_pos (by omega)]
      show some (rngD 0 1 many) = _
      unfold rngD
      congr 1
      refine List.map_congr_left fun i _ => ?_
      show D.int (0 + (i : Int) * 1) = D.int (i : Int)
      congr 1
      omega
    have l2 : lLst (aCons (dL (lRg1 (dVar 2))) aNil) (E (.tre (treR R))) = some [lstI ((List.range many).map fun (n : Nat) => (n : Int))] := by
      show (aCons (dL (lRg1 (dVar 2))) aNil (E (.tre (treR R)))).bind _ = _
      rw [a_one (dL_of l)]
      show some [D.lst ((List.range many).map natD)] = _
      unfold lstI
      rw [List.map_map] <;> rfl
    exact set_of (dL_of l2)
  | false =>
  have f6 := T 6 (.tre (treR R))
  rw [e6_] at f6
  exact ⟨.tre (treR R), R, sifF f0 (sifF f1 (sifF f2 (sifF f3 (sifF f4 (sifF f5 (sifF f6 rfl)))))), fzT _, by omega, hr20⟩
end G

namespace G
open PySem DD C L2
theorem law_true (ns : List Int) (hl : ns.length ≤ 63) : F_law [.lst (ns.map D.int)] = some (.bl true) := by
  have cnt : iR1 (aCons (dCB gMin2 (aCons (dC (.int 4)) (aCons (d2 gAdd (dC (.int 1)) (d2 gFdiv (dCB gLen (aCons (dVar 0) aNil)) (dC (.int 9)))) aNil))) aNil) [.dat (scrD ns), .no, .no, .no, .no, .no, .no, .no, .no, .no, .no, .no] = some ((List.range (min 4 (1 + ns.length / 9))).map natD) :=
    range0_nat (a_one (cb_of (a_two rfl (d2_of (x := natD 1) (y := natD (ns.length / 9)) rfl (d2_of (x := natD ns.length) (y := natD 9) (cb_of (a_one rfl) (lenS ns)) rfl (fdivN _ 9 (by omega) (by omega))) rfl)) (minN 4 _))) (by omega)
  obtain ⟨en', g, s1, s2, s3, s4, s5, s6, s7, s8, s9, s10, rfl, _, _, _⟩ := for_of (fi := iR1 (aCons (dCB gMin2 (aCons (dC (.int 4)) (aCons (d2 gAdd (dC (.int 1)) (d2 gFdiv (dCB gLen (aCons (dVar 0) aNil)) (dC (.int 9)))) aNil))) aNil)) (gd := gSet 1)
    (g := (sSeq (sSet 2 (d2 gIx (dCall F__law_draw (aCons (dVar 0) (aCons (d2 gAdd (d2 gMulI (dC (.int 9)) (dVar 1)) (dC (.int 6))) (aCons (dL (lLst (aCons (dC (.int 6)) aNil))) aNil)))) (dC (.int 0))))
 (sSeq (sAsgG (dCall F__law_pieces (aCons (dVar 0) (aCons (d2 gMulI (dC (.int 9)) (dVar 1)) (aCons (dVar 2) aNil)))) (gTupD (gsCons (gSet 9) (gsCons (gSet 10) gsNil)) 2))
 (sSeq (sSet 3 (dCall F__law_draw (aCons (dVar 0) (aCons (d2 gAdd (d2 gMulI (dC (.int 9)) (dVar 1)) (dC (.int 7))) (aCons (dL (lLst (aCons (dC (.int 3)) (aCons (dC (.int 3)) (aCons (dC (.int 3)) (aCons (dC (.int 3)) (aCons (dC (.int 3)) aNil))))))) aNil)))))
 (sSeq (sTreE 4 (trLst (trCons (trLst trNil) (trCons (trLst trNil) (trCons (trLst trNil) trNil)))))
 (sSeq (sFor (iR1 (aCons (dVar 2) aNil)) (gSet 5) (sApp1 4 (d2 gIx (dVar 3) (dVar 5)) (dVar 5)))
 (sSeq (sTreS 4 11 (tBl (d2 gGt (dCB gLen (aCons (dVar 11) aNil)) (dC (.int 0)))) [11])
 (sSeq (sSet 6 (dCall F__law_draw (aCons (dVar 0) (aCons (d2 gAdd (d2 gMulI (dC (.int 9)) (dVar 1)) (dC (.int 8))) (aCons (dL (lLst (aCons (dC (.int 10)) (aCons (dC (.int 5)) (aCons (dC (.int 7)) aNil))))) aNil)))))
 (sSeq (sIf (tBl (d2 gEq (d2 gIx (dVar 6) (dC (.int 0))) (dC (.int 0)))) (fun en => (sSet 4 (dL (lRevL (dVar 4)))) (frz 4 en)) (sIf (tScal (tAnd2 (tBl (d2 gEq (d2 gIx (dVar 6) (dC (.int 0))) (dC (.int 1)))) (tBl (d2 gGt (dCB gLen (aCons (dVar 4) aNil)) (dC (.int 0)))))) (sApp1 4 (dScal (d2 gMod (d2 gIx (dVar 6) (dC (.int 1))) (dCB gLen (aCons (dVar 4) aNil)))) (d2 gSub (d2 gIx (dVar 6) (dC (.int 2))) (dC (.int 1)))) (sIf (tScal (tAnd2 (tBl (d2 gEq (d2 gIx (dVar 6) (dC (.int 0))) (dC (.int 2)))) (tBl (d2 gGt (dCB gLen (aCons (dVar 4) aNil)) (dC (.int 0)))))) (sPutK 4 (d2 gMod (d2 gIx (dVar 6) (dC (.int 1))) (dCB gLen (aCons (dVar 4) aNil))) (lRevL (d2 gIx (dVar 4) (d2 gMod (d2 gIx (dVar 6) (dC (.int 1))) (dCB gLen (aCons (dVar 4) aNil)))))) (sIf (tBl (d2 gEq (d2 gIx (dVar 6) (dC (.int 0))) (dC (.int 3)))) (fun en => (sSet 4 (dL (lCat (lCat (lCutL (dVar 4) oNo (oInt (d2 gIx (dVar 6) (dC (.int 1))))) (lLst (aCons (dL (lLst aNil)) aNil))) (lCutL (dVar 4) (oInt (d2 gIx (dVar 6) (dC (.int 1)))) oNo)))) (frz 4 en)) (sIf (tScal (tAnd2 (tBl (d2 gEq (d2 gIx (dVar 6) (dC (.int 0))) (dC (.int 4)))) (tBl (d2 gGt (dCB gLen (aCons (dVar 4) aNil)) (dC (.int 0)))))) (sPutK 4 (d2 gMod (d2 gIx (dVar 6) (dC (.int 1))) (dCB gLen (aCons (dVar 4) aNil))) (lCutL (d2 gIx (dVar 4) (d2 gMod (d2 gIx (dVar 6) (dC (.int 1))) (dCB gLen (aCons (dVar 4) aNil)))) (oInt (dC (.int 1))) oNo)) (sIf (tScal (tAnd2 (tBl (d2 gEq (d2 gIx (dVar 6) (dC (.int 0))) (dC (.int 5)))) (tBl (d2 gGt (dCB gLen (aCons (dVar 4) aNil)) (dC (.int 0)))))) (fun en => (sSet 4 (d2 gAddB (dVar 4) (dL (lLst (aCons (d2 gIx (dVar 4) (d2 gMod (d2 gIx (dVar 6) (dC (.int 1))) (dCB gLen (aCons (dVar 4) aNil)))) aNil))))) (frz 4 en)) (sIf (tBl (d2 gEq (d2 gIx (dVar 6) (dC (.int 0))) (dC (.int 6)))) (sSet 4 (dL (lLst (aCons (dL (lRg1 (dVar 2))) aNil)))) sNil)))))))
 (fun en => (sSeq (sSet 7 (dCB gTuple (aCons (dL (lLc (iAny (dVar 4)) (gSet 11) fYes (dCB gTuple (aCons (dVar 11) aNil)) [11])) aNil)))
 (sSeq (sFor (iAny (dL (lLst (aCons (dC (.bl false)) (aCons (dC (.bl true)) aNil))))) (gSet 8) (sIf (tBl (d2 gNe (dCall F_flaw_of_cutting (aSnoc 3 (aCons (dVar 9) (aCons (dVar 10) (aCons (dVar 7) aNil))) (dVar 8))) (dCall F__law_flaw (aCons (dVar 9) (aCons (dVar 10) (aCons (dVar 7) (aCons (dVar 8) aNil))))))) (sRet (dC (.bl false))) sNil))
 (sIf (tBl (d2 gNe (dCall F_flaw_of_cutting (aPlus (aCons (dVar 9) (aCons (dVar 10) (aCons (dVar 7) aNil))) [.bl false])) (dCall F__law_flaw (aCons (dVar 9) (aCons (dVar 10) (aCons (dVar 7) (aCons (dC (.bl false)) aNil))))))) (sRet (dC (.bl false))) sNil))) (frz 4 en)))))))))))
    (en := [.dat (scrD ns), .no, .no, .no, .no, .no, .no, .no, .no, .no, .no, .no]) (List.range (min 4 (1 + ns.length / 9))) natD cnt
    (fun i en => ∃ s1 s2 s3 s4 s5 s6 s7 s8 s9 s10 : Sl, en = [.dat (scrD ns), s1, s2, s3, s4, s5, s6, s7, s8, s9, s10, .no] ∧ s5.thaw = s5 ∧ s7.thaw = s7 ∧ s8.thaw = s8) ⟨_, _, _, _, _, _, _, _, _, _, rfl, rfl, rfl, rfl⟩ (fun i z en hz hI => by
      obtain ⟨s1, s2, s3, s4, s5, s6, s7, s8, s9, s10, rfl, h5, h7, h8⟩ := hI
      have hz2 : z < 4 := by
        have := List.mem_range.mp (mem_at hz)
        omega
      let E : Sl → Sl → Sl → Sl → Sl → Sl → Sl → Sl → Sl → En := fun s2 s3 s4 s5 s6 s7 s8 s9 s10 => [.dat (scrD ns), .dat (natD z), s2, s3, s4, s5, s6, s7, s8, s9, s10, .no]
      have at9 : ∀ en : En, en[1]? = some (.dat (natD z)) → d2 gMulI (dC (.int 9)) (dVar 1) en = some (natD (9 * z)) := fun en h => d2_of (x := natD 9) (y := natD z) rfl (dVar_of h) (mul_natL (by omega))
      have atk : ∀ (en : En) (k : Nat), en[1]? = some (.dat (natD z)) → d2 gAdd (d2 gMulI (dC (.int 9)) (dVar 1)) (dC (.int (k : Int))) en = some (natD (9 * z + k)) := fun en k h => d2_of (x := natD (9 * z)) (y := natD k) (at9 en h) rfl rfl
      obtain ⟨hs, eh, hsl, hB⟩ := draw_ok ns (9 * z + 6) [6] (by omega) (by decide) (by decide)
      obtain ⟨many, qm, bm⟩ := below_at hB hsl (i := 0) (b := 6) rfl
      let M : Sl := .dat (natD many)
      have g2 : sSet 2 (d2 gIx (dCall F__law_draw (aCons (dVar 0) (aCons (d2 gAdd (d2 gMulI (dC (.int 9)) (dVar 1)) (dC (.int 6))) (aCons (dL (lLst (aCons (dC (.int 6)) aNil))) aNil)))) (dC (.int 0))) (E s2 s3 s4 s5 s6 s7 s8 s9 s10) = some (.nx (E M s3 s4 s5 s6 s7 s8 s9 s10)) :=
        set_of (d2_of (y := natD 0) (call_of (a_cons rfl (a_two (atk _ 6 rfl) rfl)) eh) rfl (at_ints qm))
      obtain ⟨P, W, eP, pl, _, _⟩ := law_pieces_ok ns (9 * z) many (by omega) (by omega)
      let Ps : Sl := .dat (lsD P)
      let Ws : Sl := .dat (natD W)
      have g3 : sAsgG (dCall F__law_pieces (aCons (dVar 0) (aCons (d2 gMulI (dC (.int 9)) (dVar 1)) (aCons (dVar 2) aNil)))) (gTupD (gsCons (gSet 9) (gsCons (gSet 10) gsNil)) 2) (E M s3 s4 s5 s6 s7 s8 s9 s10) = some (.nx (E M s3 s4 s5 s6 s7 s8 Ps Ws)) :=
        asg_of (call_of (a_cons rfl (a_two (at9 _ rfl) rfl)) eP) rfl
      obtain ⟨ds, ed, dl, dB⟩ := draw_ok ns (9 * z + 7) [3, 3, 3, 3, 3] (by omega) (by decide) (by decide)
      let Dg : Sl := .dat (.lst (ds.map D.int))
      have g4 : sSet 3 (dCall F__law_draw (aCons (dVar 0) (aCons (d2 gAdd (d2 gMulI (dC (.int 9)) (dVar 1)) (dC (.int 7))) (aCons (dL (lLst (aCons (dC (.int 3)) (aCons (dC (.int 3)) (aCons (dC (.int 3)) (aCons (dC (.int 3)) (aCons (dC (.int 3)) aNil))))))) aNil)))) (E M s3 s4 s5 s6 s7 s8 Ps Ws) = some (.nx (E M Dg s4 s5 s6 s7 s8 Ps Ws)) :=
        set_of (call_of (a_cons rfl (a_two (atk _ 7 rfl) rfl)) ed)
      let T : List Rw → Sl := fun R => .tre (treR R)
      have g5 : sTreE 4 (trLst (trCons (trLst trNil) (trCons (trLst trNil) (trCons (trLst trNil) trNil)))) (E M Dg s4 s5 s6 s7 s8 Ps Ws) = some (.nx (E M Dg (T [[], [], []]) s5 s6 s7 s8 Ps Ws)) := rfl
      obtain ⟨en', g6, R, s5', rfl, R3, Rl, h5'⟩ := for_of (fi := iR1 (aCons (dVar 2) aNil)) (gd := gSet 5) (g := sApp1 4 (d2 gIx (dVar 3) (dVar 5)) (dVar 5)) (en := E M Dg (T [[], [], []]) s5 s6 s7 s8 Ps Ws) (List.range many) natD (range0_nat rfl (by omega))
        (fun i en => ∃ (R : List Rw) (s5 : Sl), en = E M Dg (T R) s5 s6 s7 s8 Ps Ws ∧ R.length = 3 ∧ (∀ r ∈ R, r.length ≤ i) ∧ s5.thaw = s5) ⟨[[], [], []], _, rfl, rfl, fun r hr => by
          have : r = [] := by
            simp only [List.mem_cons, List.not_mem_nil, or_false] at hr
            rcases hr with e | e | e <;> exact e
          rw [this]
          exact Nat.zero_le _, h5⟩ (fun i k en hk hI => by
          obtain ⟨R, s5, rfl, R3, Rl, h5⟩ := hI
          have hi := (List.getElem?_eq_some_iff.mp hk).1
          rw [List.length_range] at hi
          have hki : k = i := by
            have := (List.getElem?_eq_some_iff.mp hk).2
            rw [List.getElem_range] at this
            exact this.symm
          subst hki
          obtain ⟨j, qj, bj⟩ := below_at dB dl (i := k) (b := 3) (by
            have : ∀ k < 5, ([3, 3, 3, 3, 3] : List Int)[k]? = some 3 := by decide
            exact this k (by omega))
          have hj : j < R.length := by omega
          have gm := Rl _ (mem_at (getD_in2 hj))
          have eR : ((R.map fun r => r.map D.int).getD j []) = (R.getD j []).map D.int := by
            rw [List.getD_eq_getElem?_getD, List.getElem?_map, List.getD_eq_getElem?_getD, List.getElem?_eq_getElem hj] <;> rfl
          have ap := app_rows (R := R.map fun r => r.map D.int) (j := j) (d := natD k) (by rw [List.length_map]; exact hj) (by rw [eR, List.length_map]; omega)
          rw [eR] at ap
          have ga : sApp1 4 (d2 gIx (dVar 3) (dVar 5)) (dVar 5) (E M Dg (T R) (.dat (natD k)) s6 s7 s8 Ps Ws) = some (.nx (E M Dg (T (R.set j (R.getD j [] ++ [(k : Int)]))) (.dat (natD k)) s6 s7 s8 Ps Ws)) := by
            have v : d2 gIx (dVar 3) (dVar 5) (E M Dg (T R) (.dat (natD k)) s6 s7 s8 Ps Ws) = some (natD j) := d2_of (y := natD k) rfl rfl (at_ints qj)
            show (d2 gIx (dVar 3) (dVar 5) (E M Dg (T R) (.dat (natD k)) s6 s7 s8 Ps Ws)).bind _ = _
            rw [v]
            show (appT1 (treR R) (j : Int) (natD k)).map _ = _
            rw [treR_rows, ap]
            show some (Out.nx (E M Dg (.tre (rowsT ((R.map fun r => r.map D.int).set j ((R.getD j []).map D.int ++ [natD k])))) (.dat (natD k)) s6 s7 s8 Ps Ws)) = _
            rw [show (R.getD j []).map D.int ++ [natD k] = (R.getD j [] ++ [(k : Int)]).map D.int by rw [List.map_append] <;> rfl, ← List.map_set, ← treR_rows]
          exact ⟨_, _, rfl, .inl ga, R.set j (R.getD j [] ++ [(k : Int)]), _, rfl, by rw [List.length_set]; exact R3, set_len (fun r h => by have := Rl r h; omega) (by rw [List.length_append, List.length_singleton]; omega), rfl⟩)
      rw [List.length_range] at Rl
      obtain ⟨R1, g7, R1l, R1m⟩ := treS_ok (en := E M Dg (T R) s5' s6 s7 s8 Ps Ws) (i := 4) (j := 11) (ft := tBl (d2 gGt (dCB gLen (aCons (dVar 11) aNil)) (dC (.int 0)))) (vs := [11]) (R := R) (fun r => decide (0 < r.length)) rfl (by omega) (by show 11 < 12; omega) fun r _ => by
        have v : dCB gLen (aCons (dVar 11) aNil) ((wipeE ((E M Dg (T R) s5' s6 s7 s8 Ps Ws).map Sl.thaw) [11]).set 11 (.dat (lstI r))) = some (natD r.length) := by
          refine cb_of (a_one (d := lstI r) rfl) ?_
          show some (D.int ((r.map D.int).length : Int)) = _
          rw [List.length_map] <;> rfl
        exact bl_of (d2_of (y := natD 0) v rfl (gt_nat _ 0))
      obtain ⟨cs, ec, cl, cB⟩ := draw_ok ns (9 * z + 8) [10, 5, 7] (by omega) (by decide) (by decide)
      obtain ⟨c0, q0, _⟩ := below_at cB cl (i := 0) (b := 10) rfl
      obtain ⟨c1, q1, _⟩ := below_at cB cl (i := 1) (b := 5) rfl
      obtain ⟨c2, q2, _⟩ := below_at cB cl (i := 2) (b := 7) rfl
      let Cg : Sl := .dat (.lst (cs.map D.int))
      have g8 : sSet 6 (dCall F__law_draw (aCons (dVar 0) (aCons (d2 gAdd (d2 gMulI (dC (.int 9)) (dVar 1)) (dC (.int 8))) (aCons (dL (lLst (aCons (dC (.int 10)) (aCons (dC (.int 5)) (aCons (dC (.int 7)) aNil))))) aNil)))) (E M Dg (T R1) s5' s6 s7 s8 Ps Ws) = some (.nx (E M Dg (T R1) s5' Cg s7 s8 Ps Ws)) :=
        set_of (call_of (a_cons rfl (a_two (atk _ 8 rfl) rfl)) ec)
      obtain ⟨s4', R2, g9, fz, R2l, R2r⟩ := chain_ok (S := .dat (scrD ns)) (s1 := .dat (natD z)) (s2 := M) (s3 := Dg) (s5 := s5') (s7 := s7) (s8 := s8) (s9 := Ps) (s10 := Ws) (ds := cs) (many := many) (R := R1) rfl (by omega) q0 q1 q2 (by omega) (fun r hr => by have := Rl r (R1m r hr); omega) rfl rfl rfl h5' h7 h8 rfl rfl
      let F : Sl → Sl → En := fun s7 s8 => E M Dg (.dat (.lst (R2.map lstI))) s5' Cg s7 s8 Ps Ws
      have l : lLc (iAny (dVar 4)) (gSet 11) fYes (dCB gTuple (aCons (dVar 11) aNil)) [11] (F s7 s8) = some (R2.map rowI) := lc_all R2 lstI _ rfl (by omega) fun r _ => ⟨_, rfl, cb_of (a_one rfl) rfl⟩
      let X : Sl := .dat (cutI R2)
      have g10 : sSet 7 (dCB gTuple (aCons (dL (lLc (iAny (dVar 4)) (gSet 11) fYes (dCB gTuple (aCons (dVar 11) aNil)) [11])) aNil)) (F s7 s8) = some (.nx (F X s8)) := set_of (cb_of (a_one (dL_of l)) rfl)
      obtain ⟨en', g11, s8', rfl, h8'⟩ := for_of (fi := iAny (dL (lLst (aCons (dC (.bl false)) (aCons (dC (.bl true)) aNil))))) (gd := gSet 8) (g := sIf (tBl (d2 gNe (dCall F_flaw_of_cutting (aSnoc 3 (aCons (dVar 9) (aCons (dVar 10) (aCons (dVar 7) aNil))) (dVar 8))) (dCall F__law_flaw (aCons (dVar 9) (aCons (dVar 10) (aCons (dVar 7) (aCons (dVar 8) aNil))))))) (sRet (dC (.bl false))) sNil) (en := F X s8) [false, true] D.bl rfl
        (fun i en => ∃ s8 : Sl, en = F X s8 ∧ s8.thaw = s8) ⟨_, rfl, h8⟩ (fun i t en ht hI => by
          obtain ⟨s8, rfl, _⟩ := hI
          obtain ⟨d, e1, e2, e3⟩ := both_ok (P := P) (W := W) (t := t) (X := R2) (by omega) R2l R2r
          have tt : tBl (d2 gNe (dCall F_flaw_of_cutting (aSnoc 3 (aCons (dVar 9) (aCons (dVar 10) (aCons (dVar 7) aNil))) (dVar 8))) (dCall F__law_flaw (aCons (dVar 9) (aCons (dVar 10) (aCons (dVar 7) (aCons (dVar 8) aNil)))))) (F X (.dat (.bl t))) = some false :=
            bl_of (d2_of (call_of (g := aSnoc 3 (aCons (dVar 9) (aCons (dVar 10) (aCons (dVar 7) aNil))) (dVar 8)) rfl e1) (call_of (a_cons rfl (a_cons rfl (a_two rfl rfl))) e2) (gNe_same e3))
          exact ⟨_, _, rfl, .inl (sifF tt rfl), _, rfl, rfl⟩)
      obtain ⟨d, e1, e2, e3⟩ := both_ok (P := P) (W := W) (t := false) (X := R2) (by omega) R2l R2r
      have tt : tBl (d2 gNe (dCall F_flaw_of_cutting (aPlus (aCons (dVar 9) (aCons (dVar 10) (aCons (dVar 7) aNil))) [.bl false])) (dCall F__law_flaw (aCons (dVar 9) (aCons (dVar 10) (aCons (dVar 7) (aCons (dC (.bl false)) aNil)))))) (F X s8') = some false :=
        bl_of (d2_of (call_of (g := aPlus (aCons (dVar 9) (aCons (dVar 10) (aCons (dVar 7) aNil))) [.bl false]) rfl e1) (call_of (a_cons rfl (a_cons rfl (a_two rfl rfl))) e2) (gNe_same e3))
      refine ⟨_, F X s8', rfl, .inl (seq g2 (seq g3 (seq g4 (seq g5 (seq g6 (seq g7 (seq g8 (seq g9 ?_)))))))), _, _, _, _, _, _, _, _, _, _, rfl, h5', rfl, h8'⟩
      show sSeq _ _ (frz 4 [.dat (scrD ns), .dat (natD z), M, Dg, s4', s5', Cg, s7, s8, Ps, Ws, .no]) = _
      rw [fz]
      exact seq g10 (seq g11 (sifF tt rfl)))
  exact run_rt rfl (seq g rfl)
end G

namespace G
open PySem PySem.Spec PyProof.Rows L2 DD
theorem rp_ints {K : PySem.W.Frag} {H : Hp} : ∀ ns : List Int, RpAll K H (ns.map V.int) (ns.map D.int)
  | [] => .nil
  | n :: ns => .cons (.int n) (rp_ints ns)
theorem all_mk {l : PySem.W.OpenLaw} {w : World} {K : PySem.W.Frag} {h : Heap} {mg : Str → Option Value} {fa : Addr} (X : K.In h) (G : h.Ns mainGlobals mg) (hfa : mg "law" = some (.ref fa))
    {f0 : Addr} {od0 an0 : Option Addr} {sl0 : Array (Option Value)} {oc0 kV0 dc0 pm0 cd0 ct0 : Value}
    {f1 : Addr} {od1 an1 : Option Addr} {sl1 : Array (Option Value)} {oc1 kV1 dc1 pm1 cd1 ct1 : Value}
    {f2 : Addr} {od2 an2 : Option Addr} {sl2 : Array (Option Value)} {oc2 dc2 pm2 cd2 ct2 : Value} {KD2 : Addr}
    {f3 : Addr} {od3 an3 : Option Addr} {sl3 : Array (Option Value)} {oc3 kV3 dc3 pm3 cd3 ct3 : Value}
    {f4 : Addr} {od4 an4 : Option Addr} {sl4 : Array (Option Value)} {oc4 dc4 pm4 cd4 ct4 : Value} {KD4 : Addr}
    {f5 : Addr} {od5 an5 : Option Addr} {sl5 : Array (Option Value)} {oc5 kV5 dc5 pm5 cd5 ct5 : Value}
    {f6 : Addr} {od6 an6 : Option Addr} {sl6 : Array (Option Value)} {oc6 kV6 dc6 pm6 cd6 ct6 : Value}
    {f7 : Addr} {od7 an7 : Option Addr} {sl7 : Array (Option Value)} {oc7 kV7 dc7 pm7 cd7 ct7 : Value}
    {f8 : Addr} {od8 an8 : Option Addr} {sl8 : Array (Option Value)} {oc8 kV8 dc8 pm8 cd8 ct8 : Value}
    {f9 : Addr} {od9 an9 : Option Addr} {sl9 : Array (Option Value)} {oc9 kV9 dc9 pm9 cd9 ct9 : Value}
    {f10 : Addr} {od10 an10 : Option Addr} {sl10 : Array (Option Value)} {oc10 kV10 dc10 pm10 cd10 ct10 : Value}
    (a0 : PySem.W.nsIn K mainGlobals "least_width" = some (some (.ref f0))) (l0 : K.lookup f0 = some ⟨oc0, od0, .func (PySem.W.fnOf "least_width" "least_width" (defArgs s_least_width) (defBody s_least_width) (defScope s_least_width) .none kV0 dc0 pm0 an0 cd0 ct0), sl0⟩) (c0 : PySem.W.codeIn K cd0 "least_width" = true) (k0 : PySem.W.keepIn K (.ref f0) = true)
    (a1 : PySem.W.nsIn K mainGlobals "turned_length" = some (some (.ref f1))) (l1 : K.lookup f1 = some ⟨oc1, od1, .func (PySem.W.fnOf "turned_length" "turned_length" (defArgs s_turned_length) (defBody s_turned_length) (defScope s_turned_length) .none kV1 dc1 pm1 an1 cd1 ct1), sl1⟩) (c1 : PySem.W.codeIn K cd1 "turned_length" = true) (k1 : PySem.W.keepIn K (.ref f1) = true)
    (a2 : PySem.W.nsIn K mainGlobals "row_length" = some (some (.ref f2))) (l2 : K.lookup f2 = some ⟨oc2, od2, .func (PySem.W.fnOf "row_length" "row_length" (defArgs s_row_length) (defBody s_row_length) (defScope s_row_length) .none (.ref KD2) dc2 pm2 an2 cd2 ct2), sl2⟩) (c2 : PySem.W.codeIn K cd2 "row_length" = true) (k2 : PySem.W.keepIn K (.ref f2) = true) (d2 : PySem.W.nsIn K KD2 "turned" = some (some (.bool false)))
    (a3 : PySem.W.nsIn K mainGlobals "row_flaw" = some (some (.ref f3))) (l3 : K.lookup f3 = some ⟨oc3, od3, .func (PySem.W.fnOf "row_flaw" "row_flaw" (defArgs s_row_flaw) (defBody s_row_flaw) (defScope s_row_flaw) .none kV3 dc3 pm3 an3 cd3 ct3), sl3⟩) (c3 : PySem.W.codeIn K cd3 "row_flaw" = true) (k3 : PySem.W.keepIn K (.ref f3) = true)
    (a4 : PySem.W.nsIn K mainGlobals "flaw_of_cutting" = some (some (.ref f4))) (l4 : K.lookup f4 = some ⟨oc4, od4, .func (PySem.W.fnOf "flaw_of_cutting" "flaw_of_cutting" (defArgs s_flaw_of_cutting) (defBody s_flaw_of_cutting) (defScope s_flaw_of_cutting) .none (.ref KD4) dc4 pm4 an4 cd4 ct4), sl4⟩) (c4 : PySem.W.codeIn K cd4 "flaw_of_cutting" = true) (k4 : PySem.W.keepIn K (.ref f4) = true) (d4 : PySem.W.nsIn K KD4 "turned" = some (some (.bool false)))
    (a5 : PySem.W.nsIn K mainGlobals "_law_cell" = some (some (.ref f5))) (l5 : K.lookup f5 = some ⟨oc5, od5, .func (PySem.W.fnOf "_law_cell" "_law_cell" (defArgs s__law_cell) (defBody s__law_cell) (defScope s__law_cell) .none kV5 dc5 pm5 an5 cd5 ct5), sl5⟩) (c5 : PySem.W.codeIn K cd5 "_law_cell" = true) (k5 : PySem.W.keepIn K (.ref f5) = true)
    (a6 : PySem.W.nsIn K mainGlobals "_law_draw" = some (some (.ref f6))) (l6 : K.lookup f6 = some ⟨oc6, od6, .func (PySem.W.fnOf "_law_draw" "_law_draw" (defArgs s__law_draw) (defBody s__law_draw) (defScope s__law_draw) .none kV6 dc6 pm6 an6 cd6 ct6), sl6⟩) (c6 : PySem.W.codeIn K cd6 "_law_draw" = true) (k6 : PySem.W.keepIn K (.ref f6) = true)
    (a7 : PySem.W.nsIn K mainGlobals "_law_row" = some (some (.ref f7))) (l7 : K.lookup f7 = some ⟨oc7, od7, .func (PySem.W.fnOf "_law_row" "_law_row" (defArgs s__law_row) (defBody s__law_row) (defScope s__law_row) .none kV7 dc7 pm7 an7 cd7 ct7), sl7⟩) (c7 : PySem.W.codeIn K cd7 "_law_row" = true) (k7 : PySem.W.keepIn K (.ref f7) = true)
    (a8 : PySem.W.nsIn K mainGlobals "_law_pieces" = some (some (.ref f8))) (l8 : K.lookup f8 = some ⟨oc8, od8, .func (PySem.W.fnOf "_law_pieces" "_law_pieces" (defArgs s__law_pieces) (defBody s__law_pieces) (defScope s__law_pieces) .none kV8 dc8 pm8 an8 cd8 ct8), sl8⟩) (c8 : PySem.W.codeIn K cd8 "_law_pieces" = true) (k8 : PySem.W.keepIn K (.ref f8) = true)
    (a9 : PySem.W.nsIn K mainGlobals "_law_flaw" = some (some (.ref f9))) (l9 : K.lookup f9 = some ⟨oc9, od9, .func (PySem.W.fnOf "_law_flaw" "_law_flaw" (defArgs s__law_flaw) (defBody s__law_flaw) (defScope s__law_flaw) .none kV9 dc9 pm9 an9 cd9 ct9), sl9⟩) (c9 : PySem.W.codeIn K cd9 "_law_flaw" = true) (k9 : PySem.W.keepIn K (.ref f9) = true)
    (a10 : PySem.W.nsIn K mainGlobals "law" = some (some (.ref f10))) (l10 : K.lookup f10 = some ⟨oc10, od10, .func (PySem.W.fnOf "law" "law" (defArgs s_law) (defBody s_law) (defScope s_law) .none kV10 dc10 pm10 an10 cd10 ct10), sl10⟩) (c10 : PySem.W.codeIn K cd10 "law" = true) (k10 : PySem.W.keepIn K (.ref f10) = true)
    (z0 : PySem.W.nsIn K mainGlobals "any" = some none)
    (z1 : PySem.W.nsIn K mainGlobals "len" = some none)
    (z2 : PySem.W.nsIn K mainGlobals "list" = some none)
    (z3 : PySem.W.nsIn K mainGlobals "max" = some none)
    (z4 : PySem.W.nsIn K mainGlobals "min" = some none)
    (z5 : PySem.W.nsIn K mainGlobals "range" = some none)
    (z6 : PySem.W.nsIn K mainGlobals "sorted" = some none)
    (z7 : PySem.W.nsIn K mainGlobals "sum" = some none)
    (z8 : PySem.W.nsIn K mainGlobals "tuple" = some none)
    (z9 : PySem.W.nsIn K mainGlobals "zip" = some none)
    : ∃ fd : FuncData, (∀ (s : Shared) (v : Value), BindsTo s fd ⟨[v], []⟩ [("script", v)]) ∧ ∀ base : Heap, K.In base → base.Ns mainGlobals mg → FnOk l.prog w K mg base CX0 6 fa fd ["script"] (spD K F_law) := by
  have e := hfa.symm.trans (PySem.W.mg_of X G a10)
  cases e
  have F0 := fun_mk (st := s_least_width) l0 c0 k0
  have F1 := fun_mk (st := s_turned_length) l1 c1 k1
  have F2 := fun_mk (st := s_row_length) l2 c2 k2
  obtain ⟨dv2, KW2⟩ := kwonly_mk (st := s_row_length) (ps := ["pieces", "row", "width", "turned"]) (n := 3) l2 c2 k2 d2 rfl (fun _ _ _ _ _ _ us ks hl hk => match us, hl, ks, hk with | [_, _, _], _, [_], _ => ⟨_, _, _, _, _, _, rfl, rfl, rfl⟩) (fun _ _ _ _ _ _ us ks hl hk => match us, hl, ks, hk with | [_, _, _], _, [_], _ => rfl)
  have F3 := fun_mk (st := s_row_flaw) l3 c3 k3
  have F4 := fun_mk (st := s_flaw_of_cutting) l4 c4 k4
  obtain ⟨dv4, KW4⟩ := kwonly_mk (st := s_flaw_of_cutting) (ps := ["pieces", "width", "cutting", "turned"]) (n := 3) l4 c4 k4 d4 rfl (fun _ _ _ _ _ _ us ks hl hk => match us, hl, ks, hk with | [_, _, _], _, [_], _ => ⟨_, _, _, _, _, _, rfl, rfl, rfl⟩) (fun _ _ _ _ _ _ us ks hl hk => match us, hl, ks, hk with | [_, _, _], _, [_], _ => rfl)
  have F5 := fun_mk (st := s__law_cell) l5 c5 k5
  have F6 := fun_mk (st := s__law_draw) l6 c6 k6
  have F7 := fun_mk (st := s__law_row) l7 c7 k7
  have F8 := fun_mk (st := s__law_pieces) l8 c8 k8
  have F9 := fun_mk (st := s__law_flaw) l9 c9 k9
  have F10 := fun_mk (st := s_law) l10 c10 k10
  have T : Tx K mg := {
    f_least_width := _, fd_least_width := _, F_least_width := F0, g_least_width := PySem.W.mg_of X G a0, b_least_width := F0.binds (ps := ["piece", "length"]) (fun _ _ _ _ _ _ us hl => match us, hl with | [_, _], _ => rfl)
    f_turned_length := _, fd_turned_length := _, F_turned_length := F1, g_turned_length := PySem.W.mg_of X G a1, b_turned_length := F1.binds (ps := ["laid", "width"]) (fun _ _ _ _ _ _ us hl => match us, hl with | [_, _], _ => rfl)
    f_row_length := _, fd_row_length := _, F_row_length := F2, g_row_length := PySem.W.mg_of X G a2, dv_row_length := dv2, b_row_length := KW2
    f_row_flaw := _, fd_row_flaw := _, F_row_flaw := F3, g_row_flaw := PySem.W.mg_of X G a3, b_row_flaw := F3.binds (ps := ["pieces", "width", "cutting", "place", "turned"]) (fun _ _ _ _ _ _ us hl => match us, hl with | [_, _, _, _, _], _ => rfl)
    f_flaw_of_cutting := _, fd_flaw_of_cutting := _, F_flaw_of_cutting := F4, g_flaw_of_cutting := PySem.W.mg_of X G a4, dv_flaw_of_cutting := dv4, b_flaw_of_cutting := KW4
    f__law_cell := _, fd__law_cell := _, F__law_cell := F5, g__law_cell := PySem.W.mg_of X G a5, b__law_cell := F5.binds (ps := ["script", "k"]) (fun _ _ _ _ _ _ us hl => match us, hl with | [_, _], _ => rfl)
    f__law_draw := _, fd__law_draw := _, F__law_draw := F6, g__law_draw := PySem.W.mg_of X G a6, b__law_draw := F6.binds (ps := ["script", "k", "sizes"]) (fun _ _ _ _ _ _ us hl => match us, hl with | [_, _, _], _ => rfl)
    f__law_row := _, fd__law_row := _, F__law_row := F7, g__law_row := PySem.W.mg_of X G a7, b__law_row := F7.binds (ps := ["pieces", "row", "width", "turned"]) (fun _ _ _ _ _ _ us hl => match us, hl with | [_, _, _, _], _ => rfl)
    f__law_pieces := _, fd__law_pieces := _, F__law_pieces := F8, g__law_pieces := PySem.W.mg_of X G a8, b__law_pieces := F8.binds (ps := ["script", "at", "many"]) (fun _ _ _ _ _ _ us hl => match us, hl with | [_, _, _], _ => rfl)
    f__law_flaw := _, fd__law_flaw := _, F__law_flaw := F9, g__law_flaw := PySem.W.mg_of X G a9, b__law_flaw := F9.binds (ps := ["pieces", "width", "cutting", "turned"]) (fun _ _ _ _ _ _ us hl => match us, hl with | [_, _, _, _], _ => rfl)
    n_any := PySem.W.mg_none_of X G z0
    n_len := PySem.W.mg_none_of X G z1
    n_list := PySem.W.mg_none_of X G z2
    n_max := PySem.W.mg_none_of X G z3
    n_min := PySem.W.mg_none_of X G z4
    n_range := PySem.W.mg_none_of X G z5
    n_sorted := PySem.W.mg_none_of X G z6
    n_sum := PySem.W.mg_none_of X G z7
    n_tuple := PySem.W.mg_none_of X G z8
    n_zip := PySem.W.mg_none_of X G z9
  }
  exact ⟨PySem.W.fnOf "law" "law" (defArgs s_law) (defBody s_law) (defScope s_law) .none kV10 dc10 pm10 an10 cd10 ct10, fun s v => .of_eq rfl, fun base _ _ => ok_law T F10⟩
end G
open PySem PySem.W PyProof.Rows
set_option maxHeartbeats 0 in
theorem PySem.Challenge.cw_sewnwhole_k61_cuttings_of_anybody_holds : PySem.Challenge.rw_sewnwhole_k61_cuttings_of_anybody.Holds := by
  w_on; refine G.law_top fun said => ?_; k_head; (case hw => w_witness2)
  k_fill
  refine L2.walk_of (l := PySem.Challenge.rw_sewnwhole_k61_cuttings_of_anybody) (n := 63) (k := 6) (x := "script") (CX := fun _ => L2.CX0) (sp := fun w => DD.spD _ G.F_law) rfl (by decide) rfl ⟨rfl, by decide, by decide⟩ (fun w h Y => PySem.W.kIn_of Y) ?F (fun _ H a ns hl _ hS => ⟨H, [.lst (ns.map DD.D.int)], .bl true, Evl.Ex.refl H, .cons (.lst hS (G.rp_ints ns)) .nil, G.law_true ns hl, fun v B' H' _ r => by cases r; rfl⟩) (fun _ _ _ _ _ h => h)
  case F =>
    intro w mg fa h KX hG hmg
    refine' G.all_mk KX hG hmg ?a0 ?l0 ?c0 ?k0 ?a1 ?l1 ?c1 ?k1 ?a2 ?l2 ?c2 ?k2 ?d2 ?a3 ?l3 ?c3 ?k3 ?a4 ?l4 ?c4 ?k4 ?d4 ?a5 ?l5 ?c5 ?k5 ?a6 ?l6 ?c6 ?k6 ?a7 ?l7 ?c7 ?k7 ?a8 ?l8 ?c8 ?k8 ?a9 ?l9 ?c9 ?k9 ?a10 ?l10 ?c10 ?k10 ?z0 ?z1 ?z2 ?z3 ?z4 ?z5 ?z6 ?z7 ?z8 ?z9
    (case a0 => k_is); (case l0 => k_is); (case c0 => k_is); (case k0 => k_is); (case a1 => k_is); (case l1 => k_is); (case c1 => k_is); (case k1 => k_is); (case a2 => k_is); (case l2 => k_is); (case c2 => k_is); (case k2 => k_is); (case d2 => k_is); (case a3 => k_is); (case l3 => k_is); (case c3 => k_is); (case k3 => k_is); (case a4 => k_is); (case l4 => k_is); (case c4 => k_is); (case k4 => k_is); (case d4 => k_is); (case a5 => k_is); (case l5 => k_is); (case c5 => k_is); (case k5 => k_is); (case a6 => k_is); (case l6 => k_is); (case c6 => k_is); (case k6 => k_is); (case a7 => k_is); (case l7 => k_is); (case c7 => k_is); (case k7 => k_is); (case a8 => k_is); (case l8 => k_is); (case c8 => k_is); (case k8 => k_is); (case a9 => k_is); (case l9 => k_is); (case c9 => k_is); (case k9 => k_is); (case a10 => k_is); (case l10 => k_is); (case c10 => k_is); (case k10 => k_is)
    (case z0 => k_is); (case z1 => k_is); (case z2 => k_is); (case z3 => k_is); (case z4 => k_is); (case z5 => k_is); (case z6 => k_is); (case z7 => k_is); (case z8 => k_is); (case z9 => k_is)

