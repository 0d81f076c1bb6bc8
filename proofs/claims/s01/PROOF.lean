import PyProof.Rows.All
import Wide.All
import OpenK.AllK
import Wide.FinOn
import Open.SpecLaws
import KE.OsGo
import KE.OsRun
import HandS.ForSpec
import HandS.ForMost
import HandS.CallLocal
import PyFlatLaws
import PySem.Challenge.RW_staysup_s01_answers
set_option Elab.async false
set_option linter.all false
set_option maxRecDepth 100000
set_option maxHeartbeats 2000000
namespace Su
open Ha10
/-! ### lists -/
theorem find_filter {α : Type} (p : α → Bool) (l : List α) : l.find? p = (l.filter p).head? := by simp
theorem len4 {α : Type} {l : List α} (h : l.length = 4) : ∃ a b c d, l = [a, b, c, d] := by
  match l, h with
  | [a, b, c, d], _ => exact ⟨a, b, c, d, rfl⟩
theorem len3 {α : Type} {l : List α} (h : l.length = 3) : ∃ a b c, l = [a, b, c] := by
  match l, h with
  | [a, b, c], _ => exact ⟨a, b, c, rfl⟩
/-! ### what holds of every state -/
def AskOK (a : Ask) : Prop := a.what ≤ 2 ∧ a.key ≤ 3 ∧ a.n ≤ 1000
def CliOK (c : Nat) : Prop := 1 ≤ c ∧ c ≤ 3
def SrvOK (s : Nat) : Prop := s = 3 ∨ s = 4
def LetOK : Letter → Prop
  | .req c s k a => CliOK c ∧ SrvOK s ∧ 1 ≤ k ∧ AskOK a
  | .do_ s _ _ c k a => SrvOK s ∧ CliOK c ∧ 1 ≤ k ∧ AskOK a
  | .back s _ c _ _ => SrvOK s ∧ CliOK c
  | .told c _ _ => CliOK c
structure BookOK (b : Book) : Prop where
  len : b.values.length = 4
  num : ∀ c, (b.done.filter fun e => e.who == c).map (·.num) = List.range' 1 (lastOf b c)
structure WF (s : St) : Prop where
  procs : s.procs.length = 4
  clients : s.clients.length = 3
  book : BookOK s.book
  disk : BookOK s.disk
  pre : lives s 1 = true → s.disk.done <+: s.book.done
  dead : lives s 1 = false → (∀ q, 2 ≤ q → q ≤ 4 → lives s q = false) ∧ s.notes = []
  wait : ∀ w ∈ s.waiting, (entryOf s.book w.2.2.1 w.2.2.2).isSome = true ∧ SrvOK w.1 ∧ CliOK w.2.2.1
  air : ∀ l ∈ s.air, LetOK l
  notes : ∀ p ∈ s.notes, 2 ≤ p ∧ p ≤ 4
  cli : ∀ c ∈ s.clients, c.waits = true → AskOK c.ask ∧ 1 ≤ c.num
structure Bd (n : Nat) (s : St) : Prop where
  air : s.air.length + s.waiting.length ≤ n
  book : s.book.done.length ≤ n
  disk : s.disk.done.length ≤ n
  notes : s.notes.length ≤ n
  times : s.times.length ≤ n
  heard : ∀ c ∈ s.clients, c.heard.length ≤ n
structure Inv (n : Nat) (s : St) : Prop where
  wf : WF s
  bd : Bd n s
theorem Bd.mono {n m : Nat} {s : St} (h : n ≤ m) (b : Bd n s) : Bd m s :=
  ⟨Nat.le_trans b.air h, Nat.le_trans b.book h, Nat.le_trans b.disk h, Nat.le_trans b.notes h, Nat.le_trans b.times h, fun c hc => Nat.le_trans (b.heard c hc) h⟩
theorem Inv.mono {n m : Nat} {s : St} (h : n ≤ m) (b : Inv n s) : Inv m s := ⟨b.wf, b.bd.mono h⟩
/-! ### books -/
theorem entry_some {b : Book} {c k : Nat} {e : Entry} (h : entryOf b c k = some e) : e.who = c ∧ e.num = k := by
  have := List.find?_some h
  simpa using this
theorem filter_and (l : List Entry) (c k : Nat) : (l.filter fun e => e.who == c && e.num == k) = (l.filter fun e => e.who == c).filter fun e => e.num == k := by
  rw [List.filter_filter]
  congr 1
  funext e
  rw [Bool.and_comm]
/-- a request is done in a book iff its number is at most the client's last one -/
theorem entry_iff {b : Book} (h : BookOK b) {c k : Nat} (hk : 1 ≤ k) : (entryOf b c k).isSome = true ↔ k ≤ lastOf b c := by
  unfold entryOf
  rw [List.find?_isSome]
  constructor
  · rintro ⟨e, he, hp⟩
    have hp : e.who = c ∧ e.num = k := by simpa using hp
    have m : k ∈ (b.done.filter fun e => e.who == c).map (·.num) := List.mem_map.mpr ⟨e, List.mem_filter.mpr ⟨he, by simp [hp.1]⟩, hp.2⟩
    rw [h.num c, List.mem_range'_1] at m
    omega
  · intro hl
    have m : k ∈ (b.done.filter fun e => e.who == c).map (·.num) := by
      rw [h.num c, List.mem_range'_1]
      omega
    obtain ⟨e, he, hn⟩ := List.mem_map.mp m
    obtain ⟨h1, h2⟩ := List.mem_filter.mp he
    exact ⟨e, h1, by simp at h2; simp [h2, hn]⟩
theorem entry_pre {b b' : Book} {c k : Nat} {e : Entry} (h : b.done <+: b'.done) (q : entryOf b c k = some e) : entryOf b' c k = some e := by
  obtain ⟨t, ht⟩ := h
  unfold entryOf at q ⊢
  rw [← ht, List.find?_append, q]
  rfl
theorem put_pre (b : Book) (c k : Nat) (a : Ask) : b.done <+: (put b c k a).done := ⟨_, rfl⟩
theorem entry_put {b : Book} (h : BookOK b) {c k : Nat} (a : Ask) (hk : k = lastOf b c + 1) : entryOf (put b c k a) c k = some ⟨c, k, a, (doing a (b.values.getD a.key 0)).2⟩ := by
  have n : entryOf b c k = none := by
    cases e : entryOf b c k with
    | none => rfl
    | some x =>
      have := (entry_iff h (c := c) (k := k) (by omega)).mp (by rw [e]; rfl)
      omega
  unfold entryOf at n ⊢
  show List.find? _ (b.done ++ [_]) = _
  rw [List.find?_append, n]
  simp
theorem lastOf_put (b : Book) (c k c' : Nat) (a : Ask) : lastOf (put b c k a) c' = lastOf b c' + if c = c' then 1 else 0 := by
  show ((b.done ++ [_]).filter _).length = _
  rw [List.filter_append, List.length_append]
  by_cases h : c = c' <;> simp [h, lastOf]
theorem book_put {b : Book} (h : BookOK b) {c k : Nat} {a : Ask} (hk : k = lastOf b c + 1) : BookOK (put b c k a) := by
  refine ⟨?_, fun c' => ?_⟩
  · show (b.values.set _ _).length = 4
    rw [List.length_set]
    exact h.len
  · rw [lastOf_put]
    show ((b.done ++ [_]).filter _).map _ = _
    rw [List.filter_append, List.map_append, h.num c']
    by_cases e : c = c'
    · subst e
      simp [hk, List.range'_concat, Nat.add_comm]
    · simp [e]
theorem book_blank : BookOK blank := ⟨rfl, fun _ => rfl⟩
/-! ### processes, clients -/
theorem proc_set {s : St} (h : s.procs.length = 4) {p q : Nat} (x : Proc) (hp : 1 ≤ p ∧ p ≤ 4) (hq : 1 ≤ q) : proc { s with procs := s.procs.set (p - 1) x } q = if q = p then x else proc s q := by
  show (s.procs.set (p - 1) x).getD (q - 1) noProc = if q = p then x else s.procs.getD (q - 1) noProc
  by_cases e : q = p
  · subst e
    rw [List.getD_eq_getElem?_getD, List.getElem?_set_self (by omega), if_pos rfl]
    rfl
  · have : p - 1 ≠ q - 1 := by omega
    simp [List.getD, this, e]
theorem client_set {s : St} (h : s.clients.length = 3) {c q : Nat} (x : Client) (hc : CliOK c) (hq : 1 ≤ q) : client (setClient s c x) q = if q = c then x else client s q := by
  show (s.clients.set (c - 1) x).getD (q - 1) noClient = if q = c then x else s.clients.getD (q - 1) noClient
  unfold CliOK at hc
  by_cases e : q = c
  · subst e
    rw [List.getD_eq_getElem?_getD, List.getElem?_set_self (by omega), if_pos rfl]
    rfl
  · have : c - 1 ≠ q - 1 := by omega
    simp [List.getD, this, e]
theorem client_mem {s : St} (h : s.clients.length = 3) {c : Nat} (hc : CliOK c) : client s c ∈ s.clients := by
  unfold CliOK at hc
  have : c - 1 < s.clients.length := by omega
  unfold client
  rw [List.getD, List.getElem?_eq_getElem this]
  exact List.getElem_mem _
theorem mem_set_of {α : Type} {l : List α} {i : Nat} {x y : α} (h : y ∈ l.set i x) : y ∈ l ∨ y = x := List.mem_or_eq_of_mem_set h
/-! ### what the store has to send -/
def waitLetters (b : Book) (ws : List (Nat × Nat × Nat × Nat)) : List Letter := ws.filterMap fun w => (entryOf b w.2.2.1 w.2.2.2).map fun e => .back w.1 w.2.1 w.2.2.1 w.2.2.2 e.answer
theorem saves_eq (s : St) : saves s = { s with disk := s.book, waiting := [], air := s.air ++ waitLetters s.book s.waiting } := rfl
theorem wl_snoc {b : Book} {ws : List (Nat × Nat × Nat × Nat)} {sv life c k : Nat} {e : Entry} (h : entryOf b c k = some e) : waitLetters b (ws ++ [(sv, life, c, k)]) = waitLetters b ws ++ [.back sv life c k e.answer] := by
  unfold waitLetters
  rw [List.filterMap_append]
  simp [h]
theorem wl_pre {b b' : Book} (hp : b.done <+: b'.done) : ∀ {ws : List (Nat × Nat × Nat × Nat)}, (∀ w ∈ ws, (entryOf b w.2.2.1 w.2.2.2).isSome = true) → waitLetters b' ws = waitLetters b ws
  | [], _ => rfl
  | w :: ws, h => by
    have ih := wl_pre hp (ws := ws) fun w hw => h w (List.mem_cons_of_mem _ hw)
    unfold waitLetters at ih ⊢
    obtain ⟨e, he⟩ := Option.isSome_iff_exists.mp (h w List.mem_cons_self)
    rw [List.filterMap_cons, List.filterMap_cons, he, entry_pre hp he, ih]
theorem wl_len {b : Book} : ∀ {ws : List (Nat × Nat × Nat × Nat)}, (∀ w ∈ ws, (entryOf b w.2.2.1 w.2.2.2).isSome = true) → (waitLetters b ws).length = ws.length
  | [], _ => rfl
  | w :: ws, h => by
    have ih := wl_len (ws := ws) fun w hw => h w (List.mem_cons_of_mem _ hw)
    unfold waitLetters at ih ⊢
    obtain ⟨e, he⟩ := Option.isSome_iff_exists.mp (h w List.mem_cons_self)
    rw [List.filterMap_cons, he]
    simp [ih]
theorem wl_le {b : Book} (ws : List (Nat × Nat × Nat × Nat)) : (waitLetters b ws).length ≤ ws.length := List.length_filterMap_le _ _
/-! ### it holds behind every call -/
theorem inv_init : Inv 0 init := by
  refine ⟨⟨rfl, rfl, book_blank, book_blank, (fun h => by cases h), fun _ => ⟨fun q h1 h2 => ?_, rfl⟩, fun w h => absurd h List.not_mem_nil, fun w h => absurd h List.not_mem_nil, fun w h => absurd h List.not_mem_nil, fun c hc hw => ?_⟩, ⟨Nat.le_refl _, Nat.le_refl _, Nat.le_refl _, Nat.le_refl _, Nat.le_refl _, fun c hc => ?_⟩⟩
  · have : q = 2 ∨ q = 3 ∨ q = 4 := by omega
    rcases this with rfl | rfl | rfl <;> rfl
  · have : c = noClient := List.eq_of_mem_replicate hc
    rw [this] at hw
    cases hw
  · have : c = noClient := List.eq_of_mem_replicate hc
    rw [this]
    exact Nat.le_refl _
theorem inv_send {n : Nat} {s : St} (h : Inv n s) {l : Letter} (hl : LetOK l) : Inv (n + 1) (send s [l]) := by
  refine ⟨{ h.wf with air := fun l' hl' => ?_ }, { (h.bd.mono (Nat.le_succ n)) with air := ?_ }⟩
  · rcases List.mem_append.mp hl' with k | k
    · exact h.wf.air l' k
    · rw [List.mem_singleton.mp k]
      exact hl
  · show (s.air ++ [l]).length + s.waiting.length ≤ n + 1
    have := h.bd.air
    rw [List.length_append]
    show s.air.length + 1 + s.waiting.length ≤ n + 1
    omega
theorem pre_of {n : Nat} {s : St} (h : Inv n s) (h2 : lives s 2 = true) : lives s 1 = true := by
  cases e : lives s 1 with
  | true => rfl
  | false =>
    have := (h.wf.dead e).1 2 (by decide) (by decide)
    rw [h2] at this
    cases this
theorem inv_asked {n : Nat} {s : St} (h : Inv n s) {sv sl c k : Nat} {a : Ask} (hk : 1 ≤ k) (hs : SrvOK sv) (hc : CliOK c) : Inv (n + 1) (asked s sv sl c k a) := by
  unfold asked
  cases e : entryOf s.disk c k with
  | some en =>
    dsimp only
    by_cases q : k = lastOf s.book c
    · rw [if_pos q]
      exact inv_send h ⟨hs, hc⟩
    · rw [if_neg q]
      exact h.mono (Nat.le_succ n)
  | none =>
    dsimp only
    by_cases q : k = lastOf s.book c
    · rw [if_pos q]
      refine ⟨{ h.wf with wait := fun w hw => ?_ }, { (h.bd.mono (Nat.le_succ n)) with air := ?_ }⟩
      · rcases List.mem_append.mp hw with z | z
        · exact h.wf.wait w z
        · rw [List.mem_singleton.mp z]
          exact ⟨(entry_iff h.wf.book hk).mpr (Nat.le_of_eq q), hs, hc⟩
      · show s.air.length + (s.waiting ++ [_]).length ≤ n + 1
        have := h.bd.air
        rw [List.length_append]
        show s.air.length + (s.waiting.length + 1) ≤ n + 1
        omega
    · rw [if_neg q]
      by_cases r : k = lastOf s.book c + 1
      · rw [if_pos r]
        refine ⟨{ h.wf with book := book_put h.wf.book r, pre := fun l => (h.wf.pre l).trans (put_pre _ _ _ _), wait := fun w hw => ?_ }, { (h.bd.mono (Nat.le_succ n)) with air := ?_, book := ?_ }⟩
        · show (entryOf (put s.book c k a) _ _).isSome = true ∧ _
          rcases List.mem_append.mp hw with z | z
          · obtain ⟨z1, z2⟩ := h.wf.wait w z
            obtain ⟨en, he⟩ := Option.isSome_iff_exists.mp z1
            rw [entry_pre (put_pre s.book c k a) he]
            exact ⟨rfl, z2⟩
          · rw [List.mem_singleton.mp z]
            refine ⟨?_, hs, hc⟩
            show (entryOf (put s.book c k a) c k).isSome = true
            rw [entry_put h.wf.book a r]
            rfl
        · show s.air.length + (s.waiting ++ [_]).length ≤ n + 1
          have := h.bd.air
          rw [List.length_append]
          show s.air.length + (s.waiting.length + 1) ≤ n + 1
          omega
        · show (s.book.done ++ [_]).length ≤ n + 1
          have := h.bd.book
          rw [List.length_append]
          show s.book.done.length + 1 ≤ n + 1
          omega
      · rw [if_neg r]
        exact h.mono (Nat.le_succ n)
theorem inv_client {n : Nat} {s : St} (h : Inv n s) {c : Nat} {x : Client} (ha : x.waits = true → AskOK x.ask ∧ 1 ≤ x.num) (hh : x.heard.length ≤ n + 1) : Inv (n + 1) (setClient s c x) := by
  refine ⟨{ h.wf with clients := ?_, cli := fun y hy => ?_ }, { (h.bd.mono (Nat.le_succ n)) with heard := fun y hy => ?_ }⟩
  · show (s.clients.set _ _).length = 3
    rw [List.length_set]
    exact h.wf.clients
  · rcases mem_set_of hy with z | z
    · exact h.wf.cli y z
    · rw [z]; exact ha
  · rcases mem_set_of hy with z | z
    · exact Nat.le_succ_of_le (h.bd.heard y z)
    · rw [z]; exact hh
theorem inv_arrives {n : Nat} {s : St} (h : Inv n s) {l : Letter} (hl : LetOK l) : Inv (n + 1) (arrives s l) := by
  cases l with
  | req c sv k a =>
    show Inv (n + 1) (if lives s sv = true ∧ lives s 2 = true then send s [.do_ sv (proc s sv).life (proc s 2).life c k a] else s)
    split
    · exact inv_send h ⟨hl.2.1, hl.1, hl.2.2⟩
    · exact h.mono (Nat.le_succ n)
  | do_ sv sl life c k a =>
    show Inv (n + 1) (if lives s 2 = true ∧ (proc s 2).life = life then asked s sv sl c k a else s)
    split
    · exact inv_asked h hl.2.2.1 hl.1 hl.2.1
    · exact h.mono (Nat.le_succ n)
  | back sv sl c k v =>
    show Inv (n + 1) (if lives s sv = true ∧ (proc s sv).life = sl then send s [.told c k v] else s)
    split
    · exact inv_send h hl.2
    · exact h.mono (Nat.le_succ n)
  | told c k v =>
    show Inv (n + 1) (if (client s c).waits = true ∧ (client s c).num = k then setClient s c { client s c with waits := false, heard := (client s c).heard ++ [v] } else s)
    split
    · refine inv_client h (fun z => nomatch z) ?_
      show ((client s c).heard ++ [v]).length ≤ n + 1
      have := h.bd.heard _ (client_mem h.wf.clients hl)
      rw [List.length_append]
      show (client s c).heard.length + 1 ≤ n + 1
      omega
    · exact h.mono (Nat.le_succ n)
theorem inv_saves {n : Nat} {s : St} (h : Inv n s) : Inv n (saves s) := by
  rw [saves_eq]
  refine ⟨{ h.wf with disk := h.wf.book, pre := fun _ => List.prefix_rfl, wait := fun w hw => absurd hw List.not_mem_nil, air := fun l hl => ?_ }, { h.bd with air := ?_, disk := h.bd.book }⟩
  · rcases List.mem_append.mp hl with z | z
    · exact h.wf.air l z
    · obtain ⟨w, hw, e⟩ := List.mem_filterMap.mp z
      obtain ⟨z1, z2⟩ := h.wf.wait w hw
      obtain ⟨en, he⟩ := Option.isSome_iff_exists.mp z1
      rw [he] at e
      have e : Letter.back w.1 w.2.1 w.2.2.1 w.2.2.2 en.answer = l := Option.some.inj e
      rw [← e]
      exact z2
  · show (s.air ++ waitLetters s.book s.waiting).length + 0 ≤ n
    have := h.bd.air
    have := wl_le (b := s.book) s.waiting
    rw [List.length_append]
    omega
theorem lives_all {s : St} (h : s.procs.length = 4) {x : Bool} {a b c e : Proc} (hp : s.procs = [a, b, c, e]) : lives s 1 = a.lives ∧ lives s 2 = b.lives ∧ lives s 3 = c.lives ∧ lives s 4 = e.lives := by
  unfold lives proc
  rw [hp]
  exact ⟨rfl, rfl, rfl, rfl⟩
theorem down_procs {s : St} (h : s.procs.length = 4) : ∃ a b c e : Nat, (down s).procs = [⟨false, a⟩, ⟨false, b⟩, ⟨false, c⟩, ⟨false, e⟩] := by
  obtain ⟨a, b, c, e, hp⟩ := len4 h
  refine ⟨a.life, b.life, c.life, e.life, ?_⟩
  show ([1, 2, 3, 4].foldl stopped s).procs = _
  simp [List.foldl, stopped, proc, hp]
theorem begins_procs {s : St} (h : s.procs.length = 4) : ∃ a b c e : Nat, (begins s).procs = [⟨true, a⟩, ⟨true, b⟩, ⟨true, c⟩, ⟨true, e⟩] := by
  obtain ⟨a, b, c, e, hp⟩ := len4 h
  refine ⟨a.life + 1, b.life + 1, c.life + 1, e.life + 1, ?_⟩
  show ([1, 2, 3, 4].foldl started s).procs = _
  simp [List.foldl, started, proc, hp]
theorem inv_down {n : Nat} {s : St} (h : Inv n s) : Inv n (down s) := by
  obtain ⟨a, b, c, e, hp⟩ := down_procs h.wf.procs
  have l1 : lives (down s) 1 = false := by unfold lives proc; rw [hp]; rfl
  refine ⟨⟨by rw [hp]; rfl, h.wf.clients, book_blank, h.wf.disk, fun l => (by rw [l1] at l; cases l), fun _ => ⟨fun q h1 h4 => ?_, rfl⟩, fun w hw => absurd hw List.not_mem_nil, h.wf.air, fun w hw => absurd hw List.not_mem_nil, h.wf.cli⟩, ⟨?_, Nat.zero_le _, h.bd.disk, Nat.zero_le _, Nat.zero_le _, h.bd.heard⟩⟩
  · have : q = 2 ∨ q = 3 ∨ q = 4 := by omega
    unfold lives proc
    rw [hp]
    rcases this with rfl | rfl | rfl <;> rfl
  · show s.air.length + 0 ≤ n
    have := h.bd.air
    omega
theorem inv_begins {n : Nat} {s : St} (h : Inv n s) : Inv n (begins s) := by
  obtain ⟨a, b, c, e, hp⟩ := begins_procs h.wf.procs
  have l1 : lives (begins s) 1 = true := by unfold lives proc; rw [hp]; rfl
  refine ⟨⟨by rw [hp]; rfl, h.wf.clients, h.wf.disk, h.wf.disk, fun _ => List.prefix_rfl, fun l => (by rw [l1] at l; cases l), fun w hw => absurd hw List.not_mem_nil, h.wf.air, fun w hw => absurd hw List.not_mem_nil, h.wf.cli⟩, ⟨?_, h.bd.disk, h.bd.disk, Nat.zero_le _, Nat.zero_le _, h.bd.heard⟩⟩
  show s.air.length + 0 ≤ n
  have := h.bd.air
  omega
theorem lives_stopped {s : St} (hl : s.procs.length = 4) {p q : Nat} (hp : 1 ≤ p ∧ p ≤ 4) (hq : 1 ≤ q) : lives (stopped s p) q = if q = p then false else lives s q := by
  unfold lives stopped
  rw [proc_set hl _ hp hq]
  split <;> rfl
theorem lives_started {s : St} (hl : s.procs.length = 4) {p q : Nat} (hp : 1 ≤ p ∧ p ≤ 4) (hq : 1 ≤ q) : lives (started s p) q = if q = p then true else lives s q := by
  unfold lives started
  rw [proc_set hl _ hp hq]
  split <;> rfl
theorem inv_dies {n : Nat} {s : St} (h : Inv n s) {p : Nat} (hp : 1 ≤ p ∧ p ≤ 4) (hv : lives s p = true) : Inv (n + 1) (dies s p) := by
  by_cases p1 : p = 1
  · have : dies s p = down s := if_pos p1
    rw [this]
    exact (inv_down h).mono (Nat.le_succ n)
  · have k1 : lives s 1 = true := by
      cases e : lives s 1 with
      | true => rfl
      | false =>
        have := (h.wf.dead e).1 p (by omega) hp.2
        rw [hv] at this
        cases this
    have s1 : lives (stopped s p) 1 = true := by
      rw [lives_stopped h.wf.procs hp (by decide), if_neg (fun z => p1 z.symm)]
      exact k1
    have core : ∀ ws, (∀ w ∈ ws, w ∈ s.waiting) → ws.length ≤ s.waiting.length → Inv (n + 1) { stopped s p with notes := s.notes ++ [p], waiting := ws } := fun ws hws hl => by
      refine ⟨{ h.wf with procs := (List.length_set ..).trans h.wf.procs, pre := fun _ => h.wf.pre k1, dead := fun z => ?_, wait := fun w hw => h.wf.wait w (hws w hw), notes := fun q hq => ?_ }, { (h.bd.mono (Nat.le_succ n)) with air := ?_, notes := ?_ }⟩
      · have z : lives (stopped s p) 1 = false := z
        rw [s1] at z
        cases z
      · rcases List.mem_append.mp hq with z | z
        · exact h.wf.notes q z
        · rw [List.mem_singleton.mp z]
          omega
      · show s.air.length + ws.length ≤ n + 1
        have := h.bd.air
        omega
      · show (s.notes ++ [p]).length ≤ n + 1
        have := h.bd.notes
        rw [List.length_append]
        show s.notes.length + 1 ≤ n + 1
        omega
    by_cases p2 : p = 2
    · have : dies s p = { stopped s p with notes := s.notes ++ [p], waiting := [] } := (if_neg p1).trans (if_pos p2)
      rw [this]
      exact core [] (fun w hw => absurd hw List.not_mem_nil) (Nat.zero_le _)
    · have : dies s p = { stopped s p with notes := s.notes ++ [p] } := (if_neg p1).trans (if_neg p2)
      rw [this]
      exact core s.waiting (fun _ h => h) (Nat.le_refl _)
theorem inv_minds {n : Nat} {s : St} (h : Inv n s) : Inv (n + 1) (minds s) := by
  unfold minds
  cases en : s.notes with
  | nil => exact h.mono (Nat.le_succ n)
  | cons p r =>
    dsimp only
    split
    · exact (inv_down h).mono (Nat.le_succ n)
    · have hp := h.wf.notes p (by rw [en]; exact List.mem_cons_self)
      have p4 : 1 ≤ p ∧ p ≤ 4 := by omega
      have k1 : lives s 1 = true := by
        cases e : lives s 1 with
        | true => rfl
        | false =>
          have := (h.wf.dead e).2
          rw [en] at this
          cases this
      have s1 : lives (started s p) 1 = true := by
        rw [lives_started h.wf.procs p4 (by decide), if_neg (by omega)]
        exact k1
      refine ⟨{ h.wf with procs := (List.length_set ..).trans h.wf.procs, pre := fun _ => h.wf.pre k1, dead := fun z => ?_, notes := fun q hq => h.wf.notes q (by rw [en]; exact List.mem_cons_of_mem _ hq) }, { (h.bd.mono (Nat.le_succ n)) with notes := ?_, times := ?_ }⟩
      · have z : lives (started s p) 1 = false := z
        rw [s1] at z
        cases z
      · have := h.bd.notes
        rw [en] at this
        have : r.length + 1 ≤ n := this
        show r.length ≤ n + 1
        omega
      · show (s.times.filter _ ++ [s.now]).length ≤ n + 1
        have := h.bd.times
        have := List.length_filter_le (fun t => decide (s.now ≤ t + WHILE)) s.times
        rw [List.length_append]
        show _ + 1 ≤ n + 1
        omega
theorem inv_air {n : Nat} {s : St} (h : Inv n s) {l : List Letter} (hm : ∀ x ∈ l, x ∈ s.air) (hl : l.length ≤ s.air.length) : Inv n { s with air := l } := by
  have k : l.length + s.waiting.length ≤ n := by
    have := h.bd.air
    omega
  exact ⟨{ h.wf with air := fun x hx => h.wf.air x (hm x hx) }, { h.bd with air := k }⟩
theorem inv_erase {n : Nat} {s : St} (h : Inv n s) (k : Nat) : Inv n { s with air := s.air.eraseIdx k } := inv_air h (fun _ hx => List.mem_of_mem_eraseIdx hx) (by rw [List.length_eraseIdx]; split <;> omega)
/-- the first letter arrives, if there is one -/
def roundT (s : St) : St := match s.air with
  | [] => s
  | l :: r => arrives { s with air := r } l
theorem round_eq (s : St) : round s = if lives (roundT s) 2 = true then saves (roundT s) else roundT s := rfl
theorem inv_roundT {n : Nat} {s : St} (h : Inv n s) : Inv (n + 1) (roundT s) := by
  unfold roundT
  cases e : s.air with
  | nil => exact h.mono (Nat.le_succ n)
  | cons l r => exact inv_arrives (inv_air h (fun x hx => by rw [e]; exact List.mem_cons_of_mem _ hx) (by rw [e]; exact Nat.le_succ _)) (h.wf.air l (by rw [e]; exact List.mem_cons_self))
theorem inv_round {n : Nat} {s : St} (h : Inv n s) : Inv (n + 1) (round s) := by
  rw [round_eq]
  have := inv_roundT h
  split
  · exact inv_saves this
  · exact this
theorem inv_rounds : ∀ (k : Nat) {n : Nat} {s : St}, Inv n s → Inv (n + k) (rounds k s)
  | 0, n, s, h => h
  | k + 1, n, s, h => by
    have := inv_rounds k (inv_round h)
    rw [Nat.add_assoc, Nat.add_comm 1 k] at this
    exact this
theorem inv_step {n : Nat} {s : St} (h : Inv n s) (c : Call) : Inv (n + 200) (step s c).1 := by
  have m0 : Inv (n + 200) s := h.mono (Nat.le_add_right n 200)
  have m1 : ∀ {t}, Inv (n + 1) t → Inv (n + 200) t := fun t => t.mono (by omega)
  have m2 : ∀ {t}, Inv (n + 1 + 1) t → Inv (n + 200) t := fun t => t.mono (by omega)
  cases c with
  | begin_ =>
    unfold step
    dsimp only
    split
    · exact m0
    · exact (inv_begins h).mono (Nat.le_add_right n 200)
  | ask c sv what key m =>
    unfold step
    dsimp only
    split
    · exact m0
    · next hr =>
      split
      · exact m0
      · split
        · exact m0
        · have hr : (isClient c = true ∧ isServer sv = true) ∧ what ≤ 2 ∧ key ≤ 3 ∧ m ≤ 1000 := by
            simp only [not_or, Bool.not_eq_false] at hr
            exact ⟨⟨hr.1, hr.2.1⟩, by omega, by omega, by omega⟩
          have hc : CliOK c := by
            have := hr.1.1
            unfold isClient at this
            simpa [CliOK] using this
          have hs : SrvOK sv := by
            have := hr.1.2
            unfold isServer at this
            simpa [SrvOK] using this
          have k1 : Inv (n + 1) (setClient s c { client s c with num := (client s c).num + 1, ask := ⟨what, key, m⟩, waits := true }) := inv_client h (fun _ => ⟨hr.2, Nat.succ_le_succ (Nat.zero_le _)⟩) (Nat.le_succ_of_le (h.bd.heard (client s c) (client_mem h.wf.clients hc)))
          have k2 : LetOK (.req c sv ((client s c).num + 1) ⟨what, key, m⟩) := ⟨hc, hs, Nat.succ_le_succ (Nat.zero_le _), hr.2⟩
          exact m2 (inv_send k1 k2)
  | again c sv =>
    unfold step
    dsimp only
    split
    · exact m0
    · next hr =>
      split
      · exact m0
      · next hw =>
        split
        · exact m0
        · have hr : isClient c = true ∧ isServer sv = true := by
            simp only [not_or, Bool.not_eq_false] at hr
            exact hr
          have hc : CliOK c := by
            have := hr.1
            unfold isClient at this
            simpa [CliOK] using this
          have hs : SrvOK sv := by
            have := hr.2
            unfold isServer at this
            simpa [SrvOK] using this
          have hw : (client s c).waits = true := by simpa using hw
          have hq := h.wf.cli _ (client_mem h.wf.clients hc) hw
          exact m1 (inv_send h ⟨hc, hs, hq.2, hq.1⟩)
  | take k =>
    unfold step
    dsimp only
    split
    · exact m0
    · next l e =>
      split
      · exact m0
      · exact m1 (inv_arrives (inv_erase h (k - 1)) (h.wf.air l (List.mem_of_getElem? e)))
  | keep k =>
    unfold step
    dsimp only
    split
    · exact m0
    · next l e =>
      split
      · exact m0
      · split
        · exact m0
        · exact m1 (inv_arrives h (h.wf.air l (List.mem_of_getElem? e)))
  | lose k =>
    unfold step
    dsimp only
    split
    · exact m0
    · split
      · exact m0
      · exact (inv_erase h (k - 1)).mono (Nat.le_add_right n 200)
  | save =>
    unfold step
    dsimp only
    split
    · exact m0
    · exact (inv_saves h).mono (Nat.le_add_right n 200)
  | kill p =>
    unfold step
    dsimp only
    split
    · exact m0
    · next hp =>
      split
      · exact m0
      · next hv => exact m1 (inv_dies h (by omega) (by simpa using hv))
  | mind =>
    unfold step
    dsimp only
    split
    · exact m0
    · exact m1 (inv_minds h)
  | ticks m =>
    unfold step
    dsimp only
    split
    · exact m0
    · exact ⟨{ m0.wf with }, { m0.bd with }⟩
  | turns m =>
    unfold step
    dsimp only
    split
    · exact m0
    · exact (inv_rounds m h).mono (by omega)
  | client c => exact m0
  | book => exact m0
  | disk => exact m0
  | process p => exact m0
  | notes => exact m0
  | air => exact m0
end Su

namespace Su
open Ha10
/-! ### a list of calls, one behind another -/
theorem whole_id (c : List (List Int)) : PyHa10.whole c = c := by
  unfold PyHa10.whole
  split <;> rfl
theorem whole_map (cs : List (List (List Int))) : cs.map PyHa10.whole = cs := by
  have : PyHa10.whole = id := funext whole_id
  rw [this, List.map_id]
theorem ite_rows {c : Prop} [Decidable c] {a : Nat} {o : Option (Nat × Nat)} {n k : Nat} (ho : o = some (n, k) → k = 0) (h : (if c then some (a, 0) else o) = some (n, k)) : k = 0 := by
  by_cases hc : c
  · rw [if_pos hc] at h
    cases h
    rfl
  · rw [if_neg hc] at h
    exact ho h
theorem shape_rows {p : Int} {n k : Nat} (h : PyHa10.shape p = some (n, k)) : k = 0 := by
  unfold PyHa10.shape at h
  revert h
  refine ite_rows ?_; refine ite_rows ?_; refine ite_rows ?_; refine ite_rows ?_; refine ite_rows ?_; refine ite_rows ?_; refine ite_rows ?_; refine ite_rows ?_; refine ite_rows ?_; refine ite_rows ?_; refine ite_rows ?_; refine ite_rows ?_; refine ite_rows ?_; refine ite_rows ?_; refine ite_rows ?_; refine ite_rows ?_; refine ite_rows ?_; 
  intro h
  cases h
/-- how many numbers each call has -/
def nums : List Nat := [0, 5, 2, 1, 1, 1, 0, 1, 0, 1, 1, 1, 0, 0, 1, 0, 0]
theorem num_of {N : Nat} {ns : List Nat} {x : Call} (h : Ha10Neutral.callIn [N :: ns] = some x) : nums[N]? = some ns.length := by
  unfold Ha10Neutral.callIn at h
  split at h <;> first
    | (next e => injection e with e1 e2; injection e1 with e3 e4; subst e3 e4; rfl)
    | cases h
/-- one call: its number, its numbers, what it is -/
structure Good (c : List (List Int)) (N : Nat) (ns : List Nat) (x : Call) : Prop where
  is : c = [((N : Int) :: ns.map fun (n : Nat) => (n : Int))]
  of : Ha10Neutral.callIn [N :: ns] = some x
  step : ∀ s, Ha10Neutral.step s c = Ha10.step s x
theorem nat_of {z : Int} (h : Ha10Neutral.nat z = true) : ((z.toNat : Nat) : Int) = z := by
  unfold Ha10Neutral.nat at h
  rw [Bool.and_eq_true, decide_eq_true_eq] at h
  omega
theorem nats_of : ∀ {l : List Int}, l.all Ha10Neutral.nat = true → (l.map Int.toNat).map (fun (n : Nat) => (n : Int)) = l
  | [], _ => rfl
  | z :: l, h => by
    rw [List.all_cons, Bool.and_eq_true] at h
    rw [List.map_cons, List.map_cons, nats_of h.2, nat_of h.1]
theorem good_of {c : List (List Int)} (h : PyFlat.okCall PyHa10.shape c) (a : Ha10Neutral.asked1 c = true) : ∃ N ns x, Good c N ns x := by
  obtain ⟨p, l, xs, rfl, hs⟩ := h
  have h0 := shape_rows hs
  have h0 : xs = [] := List.length_eq_zero_iff.mp h0
  subst h0
  unfold Ha10Neutral.asked1 at a
  obtain ⟨x, hx⟩ := Option.isSome_iff_exists.mp a
  have hx' := hx
  unfold Ha10Neutral.callOf at hx
  split at hx
  · cases hx
  · next hn =>
    have hn : ([(p :: l)] : List (List Int)).all (fun r => r.all Ha10Neutral.nat) = true := by simpa using hn
    rw [List.all_cons, Bool.and_eq_true] at hn
    have h1 := hn.1
    rw [List.all_cons, Bool.and_eq_true] at h1
    refine ⟨p.toNat, l.map Int.toNat, x, ⟨?_, hx, fun s => ?_⟩⟩
    · rw [nats_of h1.2, nat_of h1.1]
    · unfold Ha10Neutral.step
      rw [hx']
def after (s : St) (cs : List (List (List Int))) : St := cs.foldl (fun s c => (Ha10Neutral.step s c).1) s
theorem played_app (cs ds : List (List (List Int))) : ∀ s : St, PyFlat.played Ha10Neutral.step s (cs ++ ds) = PyFlat.played Ha10Neutral.step s cs ++ PyFlat.played Ha10Neutral.step (after s cs) ds := by
  induction cs with
  | nil => intro s; rfl
  | cons c cs ih =>
    intro s
    show _ :: PyFlat.played _ _ (cs ++ ds) = _
    rw [ih]
    rfl
theorem told_app (a b : List (List Int)) : PyFlat.told (a ++ b) = PyFlat.told a ++ PyFlat.told b := List.flatMap_append
theorem put_app : ∀ a b : List (List (List Int)), PyFlat.put (a ++ b) = PyFlat.put a ++ PyFlat.put b
  | [], _ => rfl
  | c :: a, b => by
    show PyFlat.put1 c ++ PyFlat.put (a ++ b) = (PyFlat.put1 c ++ PyFlat.put a) ++ PyFlat.put b
    rw [put_app a b, List.append_assoc]
theorem put1_good {c : List (List Int)} {N : Nat} {ns : List Nat} {x : Call} (g : Good c N ns x) : PyFlat.put1 c = (N : Int) :: ns.map fun (n : Nat) => (n : Int) := by
  rw [g.is]
  show _ ++ [] = _
  rw [List.append_nil]
/-- what is told of the calls done so far -/
def toldOf (cs : List (List (List Int))) : List Int := PyFlat.told (PyFlat.played Ha10Neutral.step init cs)
theorem toldOf_snoc {cs : List (List (List Int))} {c : List (List Int)} {N : Nat} {ns : List Nat} {x : Call} (g : Good c N ns x) : toldOf (cs ++ [c]) = toldOf cs ++ [((Ha10.step (after init cs) x).2.length : Int)] ++ (Ha10.step (after init cs) x).2 := by
  unfold toldOf
  rw [played_app, told_app]
  show _ ++ (((Ha10Neutral.step (after init cs) c).2.length : Int) :: ((Ha10Neutral.step (after init cs) c).2 ++ [])) = _
  rw [g.step, List.append_nil, List.append_assoc]
  rfl
theorem after_snoc {cs : List (List (List Int))} {c : List (List Int)} {N : Nat} {ns : List Nat} {x : Call} (g : Good c N ns x) : after init (cs ++ [c]) = (Ha10.step (after init cs) x).1 := by
  unfold after
  rw [List.foldl_append]
  show (Ha10Neutral.step _ c).1 = _
  rw [g.step]
theorem toldOf_le (cs ds : List (List (List Int))) : (toldOf cs).length ≤ (toldOf (cs ++ ds)).length := by
  unfold toldOf
  rw [played_app, told_app, List.length_append]
  omega
/-- what is asked of a list -/
structure Line (l : List Int) (raw : List (List (List Int))) : Prop where
  put : l = PyFlat.put raw
  good : ∀ c ∈ raw, ∃ N ns x, Good c N ns x
  most : raw.length ≤ 100
  ans : PyHa10.answers l = toldOf raw
  short : (toldOf raw).length ≤ 10000000
theorem line_of {l : List Int} (h : PyHa10.answers_asked l = true) : ∃ raw, Line l raw := by
  unfold PyHa10.answers_asked at h
  cases e : PyFlat.calls PyHa10.shape l.length l with
  | none => rw [e] at h; cases h
  | some raw =>
    rw [e] at h
    simp only [Bool.and_eq_true] at h
    obtain ⟨⟨⟨⟨_, h1⟩, _⟩, h2⟩, h3⟩ := h
    obtain ⟨p1, p2⟩ := PyFlat.put_calls _ _ _ e
    have ea : PyHa10.answers l = toldOf raw := by
      unfold PyHa10.answers PyHa10.calls
      rw [e]
      show PyFlat.told (PyFlat.played _ _ (raw.map PyHa10.whole)) = _
      rw [whole_map]
      rfl
    rw [whole_map] at h2
    unfold Ha10Neutral.asked at h2
    rw [Bool.and_eq_true, List.all_eq_true] at h2
    refine ⟨raw, ⟨p1, fun c hc => good_of (p2 c hc) (h2.1 c hc), ?_, ea, ?_⟩⟩
    · unfold PyFlat.atMost at h1
      exact of_decide_eq_true h1
    · rw [← ea]
      unfold PyFlat.short at h3
      exact of_decide_eq_true h3
theorem inv_after : ∀ (cs : List (List (List Int))) {n : Nat} {s : St}, (∀ c ∈ cs, ∃ N ns x, Good c N ns x) → Inv n s → Inv (n + 200 * cs.length) (after s cs)
  | [], n, s, _, h => h
  | c :: cs, n, s, g, h => by
    obtain ⟨N, ns, x, gc⟩ := g c List.mem_cons_self
    have := inv_after cs (fun d hd => g d (List.mem_cons_of_mem _ hd)) (inv_step h x)
    have e : after s (c :: cs) = after (Ha10.step s x).1 cs := by
      show after (Ha10Neutral.step s c).1 cs = _
      rw [gc.step]
    rw [e]
    refine this.mono ?_
    rw [List.length_cons]
    omega
end Su

/-! ### rules that the layer lacks -/
namespace Su
open PySem PySem.Spec PyProof.Rows L2
section
variable {X : Cx}
theorem pe_gI {x : Str} {i : Int} {pos : Pos} (hg : Gl X x) (hm : ∃ t, X.mg x = some (.int i t)) (hd : (x == ("__debug__" : Str)) = false := by decide) : PE X (.Name x pos) (tC (.int i)) := by
  obtain ⟨t, h⟩ := hm
  exact pe_glob hg h ⟨t, rfl⟩ hd
/-- xs[i], by values, ahead of xs[i] op= e -/
def rGetL (K : PySem.W.Frag) : V → V → Hp → VK → Prop := fun x y H Q => ∃ p xs i v, x = .ref p ∧ y = .int i ∧ 0 ≤ i ∧ SqL K H p xs ∧ atI xs i = some v ∧ Q v H
theorem get_list : PGet X (rGetL X.K) := by
  intro pins s σ H o i ov iv Q I rx ry h
  obtain ⟨p, xs, k, z, rfl, rfl, h0, hq, he, q⟩ := h
  cases rx
  obtain ⟨t, rfl⟩ := ry
  obtain ⟨its, r, pl, hz⟩ := I.list hq
  obtain ⟨j, h1, h2, h3, h4, h5⟩ := atI_get he
  obtain ⟨w, ew, rw'⟩ := r.get h2
  have hl := r.length
  have hn := line63
  have hj : k.toNat = j := by
    rw [seqIndex_of h0 h5] at h1
    exact Option.some.inj h1
  exact wpAny_getItem_list pl.isList h0 (by omega) (by rw [hj]; simpa using ew) ⟨z, H, I, rw', q⟩
/-- a call of what a subscript gives: one of several defs -/
def tCallE (S : Addr → Sp → Prop) (tf : TE) (t : TA) : TE := fun σ H Q => tf σ H fun v H1 => ∃ f sp, v = .ref f ∧ S f sp ∧ t σ H1 fun vs H2 => sp vs H2 Q (fun _ _ _ => False)
theorem pe_callE {S : Addr → Sp → Prop} {k : Nat} {a b e : Expr} {es : List Expr} {p pos : Pos} {tf : TE} {t : TA} (A : ∀ f sp, S f sp → ∃ j, j ≤ k ∧ Held X.prog X.w X.K X.mg X.base j f sp) (hr : Room k X.A) (hf : PE X (.Subscript a b p) tf) (ha : PA X (e :: es) t)
    (he : starEach (e :: es) X.env = (false, eval e X.env) :: starEach es X.env := by rfl) (hpl : (backTo pos (starEach es X.env)).any (·.1) = false := by rfl) : PE X (.Call (.Subscript a b p) (e :: es) [] pos) (tCallE S tf t) := by
  refine ⟨fun pins s σ H Q I h => ?_⟩
  have ee : eval (.Call (.Subscript a b p) (e :: es) [] pos) X.env = (do callWith pos (← eval (.Subscript a b p) X.env) [] (backTo pos (starEach (e :: es) X.env)) (backToKw pos (keywordEach [] X.env))) := rfl
  rw [ee]
  refine wpAny_bind (thn (hf.run pins s σ H _ I h) fun u s1 ⟨v, H1, I1, r1, f, sp, ev, hS, ht⟩ => ?_)
  subst ev
  cases r1
  obtain ⟨j, hj, hh⟩ := A f sp hS
  obtain ⟨fd, ps, F, hk, hb⟩ := hh.ex
  have e0 : (fun (vs : List V) (H1 : Hp) => sp (vs ++ []) H1 Q (fun _ _ _ => False)) = fun vs H1 => sp vs H1 Q (fun _ _ _ => False) := by
    funext vs H1
    rw [List.append_nil]
  rw [← e0] at ht
  refine PySem.W.callWith_K (h₀ := X.base) I.ok.mod.kin hk (thn (ha.run pos pins s1 σ _ _ I1 ht) fun us s2 ⟨vs, H2, I2, r, q⟩ => ⟨I2.kIn, ?_⟩) he hpl
  exact run_fn F (hr.mono hj) hb .nil (fun _ _ _ _ _ _ _ z => z.elim) I2 r q
/-- xs.extend(t), t a tuple -/
theorem ext_tup (l : Addr) (items : Array Value) (n : Nat) (b : Addr) (more : Array Value) (m : Nat) (od : Option Addr) (sl : Array (Option Value)) (c0 : ¬(!items.isEmpty && Builtin.List.listTooLong (items.size + more.size)) = true) (c1 : items.size ≤ sizeLine) (c2 : items.size + more.size ≤ sizeLine + 1) :
    Meets (Builtin.«list.extend» ⟨[.ref l, .ref b], []⟩) (fun _ R s => s.heap.get? l = some { cls := .type "list", dict := none, data := .seq items n, slots := #[] } ∧ s.heap.get? b = some { cls := .type "tuple", dict := od, data := .seq more m, slots := sl } ∧ R (.ok (.ret Value.none)) { s with heap := s.heap.update l (Obj.mapSeq fun z => z ++ more), toks := s.toks }) :=
  .of_wp fun prog w A R s h => by
    obtain ⟨hp, g, d, tk, os⟩ := s
    obtain ⟨hl, hb, h⟩ := h
    have g1 := AutoSeq1.idx_int
    have g2 := AutoSeq1.sub_tuple_tuple
    have g3 := AutoSeq1.sub_list_list
    have g4 := AutoSeq1.sub_tuple_list
    have g5 := AutoSeq1.sub_list_tuple
    have hz : (items ++ more).size ≤ sizeLine + 1 := by
      rw [Array.size_append]
      exact c2
    wp_walk using (wpAny_updateSeq hl rfl (hz := c1) (_hz' := hz)), AutoSeq1.wpAny_loadPart' hl, AutoSeq1.wpAny_loadPart' hb
    exact ⟨_, rfl, h⟩
def rExtendT (K : PySem.W.Frag) : V → List V → Hp → VK → Prop := fun x vs H Q => ∃ l b xs zs, x = .ref l ∧ vs = [.ref b] ∧ H l = some (.lst xs) ∧ SqT K H b zs ∧ xs.length + zs.length ≤ sizeLine ∧ Q .non (upd H l (.lst (xs ++ zs)))
theorem mt_extendT : MtR X "list.extend" (rExtendT X.K) := by
  intro pins s σ H x vs v us Q I rx rv h
  obtain ⟨l, b, xs, zs, rfl, rfl, hL, hT, hz, q⟩ := h
  cases rx
  obtain ⟨u, rfl, ru⟩ := rv.one
  cases ru
  obtain ⟨z, its, n, r, hl, e⟩ := I.lstM hL
  obtain ⟨its2, r2, ⟨o, e2, hc, m, hd⟩, _⟩ := I.tuple hT
  obtain ⟨oc, od, dt, sl⟩ := o
  have hc : oc = _ := hc
  have hd : dt = _ := hd
  subst hc hd
  have hl2 := r2.length
  have hs : its.toArray.size + its2.toArray.size ≤ sizeLine := by
    rw [List.size_toArray, List.size_toArray]
    omega
  have hlong : ¬ (!its.toArray.isEmpty && Builtin.List.listTooLong (its.toArray.size + its2.toArray.size)) = true := by
    rw [notLongL hs, Bool.and_false]
    decide
  refine call_meets F.slot_list_extend ⟨_, e, rfl⟩ F.entry_list_extend (F.args_list_extend_2 _ _) (ext_tup l its.toArray n b its2.toArray m od sl hlong (by rw [List.size_toArray]; omega) (by omega)) ⟨e, e2, ?_⟩
  refine ⟨.non, _, I.lset (its' := its ++ its2) hL e (by simp) (r.append r2) ?_, rfl, q⟩
  rw [List.length_append]
  omega
end
end Su
/-! ### the text by places, what the top has written -/
namespace Su
open PySem PySem.Spec PyProof.Rows L2

def top (i : Nat) : Stmt := PySem.Challenge.pw_staysup_s01_answers.main.body.getD i (.Pass ⟨0, 0, 0, 0⟩)
abbrev s_Book_init : Stmt := inClass (top 3) 0
abbrev s_Book_copy : Stmt := inClass (top 3) 1
abbrev s_Book_last : Stmt := inClass (top 3) 2
abbrev s_Book_answer_to : Stmt := inClass (top 3) 3
abbrev s_Book_told : Stmt := inClass (top 3) 4
abbrev s_Book_do_request : Stmt := inClass (top 3) 5
abbrev s_Book_change_account : Stmt := inClass (top 3) 6
abbrev s_Client_init : Stmt := inClass (top 25) 0
abbrev s_House_init : Stmt := inClass (top 26) 0
abbrev s_House_is_full : Stmt := inClass (top 26) 1
abbrev s_House_has_letter : Stmt := inClass (top 26) 2
abbrev s_House_send_request : Stmt := inClass (top 26) 3
abbrev s_House_letter_arrives : Stmt := inClass (top 26) 4
abbrev s_House_request_arrives : Stmt := inClass (top 26) 5
abbrev s_House_question_arrives : Stmt := inClass (top 26) 6
abbrev s_House_reply_arrives : Stmt := inClass (top 26) 7
abbrev s_House_answer_arrives : Stmt := inClass (top 26) 8
abbrev s_House_store_is_asked : Stmt := inClass (top 26) 9
abbrev s_House_reply_to : Stmt := inClass (top 26) 10
abbrev s_House_store_saves : Stmt := inClass (top 26) 11
abbrev s_House_round_passes : Stmt := inClass (top 26) 12
abbrev s_House_process_dies : Stmt := inClass (top 26) 13
abbrev s_House_go_down : Stmt := inClass (top 26) 14
abbrev s_House_forget : Stmt := inClass (top 26) 15
abbrev s_House_process_lives : Stmt := inClass (top 26) 16
abbrev s_House_keeper_minds : Stmt := inClass (top 26) 17
abbrev s_House_come_up : Stmt := inClass (top 26) 18
abbrev s_begin : Stmt := top 27
abbrev s_ask : Stmt := top 28
abbrev s_again : Stmt := top 29
abbrev s_take : Stmt := top 30
abbrev s_keep : Stmt := top 31
abbrev s_lose : Stmt := top 32
abbrev s_save : Stmt := top 33
abbrev s_kill : Stmt := top 34
abbrev s_mind : Stmt := top 35
abbrev s_ticks : Stmt := top 36
abbrev s_turns : Stmt := top 37
abbrev s_tell_client : Stmt := top 38
abbrev s_tell_book : Stmt := top 39
abbrev s_tell_disk : Stmt := top 40
abbrev s_tell_process : Stmt := top 41
abbrev s_tell_notes : Stmt := top 42
abbrev s_tell_air : Stmt := top 43
abbrev s_answer_call : Stmt := top 46
abbrev s_answers : Stmt := top 47
theorem sc_Book_init : FnScope ["self"] ["self"] (defScope s_Book_init) := ⟨rfl, rfl, rfl, by decide +kernel, rfl, by decide +kernel, by decide +kernel⟩
theorem sc_Book_copy : FnScope ["self", "book"] ["self"] (defScope s_Book_copy) := ⟨rfl, rfl, rfl, by decide +kernel, rfl, by decide +kernel, by decide +kernel⟩
theorem sc_Book_last : FnScope ["self", "client", "one"] ["self", "client"] (defScope s_Book_last) := ⟨rfl, rfl, rfl, by decide +kernel, rfl, by decide +kernel, by decide +kernel⟩
theorem sc_Book_answer_to : FnScope ["self", "client", "number", "found", "one"] ["self", "client", "number"] (defScope s_Book_answer_to) := ⟨rfl, rfl, rfl, by decide +kernel, rfl, by decide +kernel, by decide +kernel⟩
theorem sc_Book_told : FnScope ["self", "numbers", "one"] ["self"] (defScope s_Book_told) := ⟨rfl, rfl, rfl, by decide +kernel, rfl, by decide +kernel, by decide +kernel⟩
theorem sc_Book_do_request : FnScope ["self", "client", "number", "asked", "answer"] ["self", "client", "number", "asked"] (defScope s_Book_do_request) := ⟨rfl, rfl, rfl, by decide +kernel, rfl, by decide +kernel, by decide +kernel⟩
theorem sc_Book_change_account : FnScope ["self", "asked", "what", "account", "much"] ["self", "asked"] (defScope s_Book_change_account) := ⟨rfl, rfl, rfl, by decide +kernel, rfl, by decide +kernel, by decide +kernel⟩
theorem sc_Client_init : FnScope ["self"] ["self"] (defScope s_Client_init) := ⟨rfl, rfl, rfl, by decide +kernel, rfl, by decide +kernel, by decide +kernel⟩
theorem sc_House_init : FnScope ["self"] ["self"] (defScope s_House_init) := ⟨rfl, rfl, rfl, by decide +kernel, rfl, by decide +kernel, by decide +kernel⟩
theorem sc_House_is_full : FnScope ["self"] ["self"] (defScope s_House_is_full) := ⟨rfl, rfl, rfl, by decide +kernel, rfl, by decide +kernel, by decide +kernel⟩
theorem sc_House_has_letter : FnScope ["self", "k"] ["self", "k"] (defScope s_House_has_letter) := ⟨rfl, rfl, rfl, by decide +kernel, rfl, by decide +kernel, by decide +kernel⟩
theorem sc_House_send_request : FnScope ["self", "number_of_client", "server", "client"] ["self", "number_of_client", "server"] (defScope s_House_send_request) := ⟨rfl, rfl, rfl, by decide +kernel, rfl, by decide +kernel, by decide +kernel⟩
theorem sc_House_letter_arrives : FnScope ["self", "letter"] ["self", "letter"] (defScope s_House_letter_arrives) := ⟨rfl, rfl, rfl, by decide +kernel, rfl, by decide +kernel, by decide +kernel⟩
theorem sc_House_request_arrives : FnScope ["self", "letter", "client", "server", "number", "asked", "lives"] ["self", "letter"] (defScope s_House_request_arrives) := ⟨rfl, rfl, rfl, by decide +kernel, rfl, by decide +kernel, by decide +kernel⟩
theorem sc_House_question_arrives : FnScope ["self", "letter", "life_of_store"] ["self", "letter"] (defScope s_House_question_arrives) := ⟨rfl, rfl, rfl, by decide +kernel, rfl, by decide +kernel, by decide +kernel⟩
theorem sc_House_reply_arrives : FnScope ["self", "letter", "server", "life"] ["self", "letter"] (defScope s_House_reply_arrives) := ⟨rfl, rfl, rfl, by decide +kernel, rfl, by decide +kernel, by decide +kernel⟩
theorem sc_House_answer_arrives : FnScope ["self", "letter", "client", "number"] ["self", "letter"] (defScope s_House_answer_arrives) := ⟨rfl, rfl, rfl, by decide +kernel, rfl, by decide +kernel, by decide +kernel⟩
theorem sc_House_store_is_asked : FnScope ["self", "letter", "client", "number", "asked", "last"] ["self", "letter"] (defScope s_House_store_is_asked) := ⟨rfl, rfl, rfl, by decide +kernel, rfl, by decide +kernel, by decide +kernel⟩
theorem sc_House_reply_to : FnScope ["self", "letter", "server", "life", "client", "number"] ["self", "letter"] (defScope s_House_reply_to) := ⟨rfl, rfl, rfl, by decide +kernel, rfl, by decide +kernel, by decide +kernel⟩
theorem sc_House_store_saves : FnScope ["self", "sent"] ["self"] (defScope s_House_store_saves) := ⟨rfl, rfl, rfl, by decide +kernel, rfl, by decide +kernel, by decide +kernel⟩
theorem sc_House_round_passes : FnScope ["self"] ["self"] (defScope s_House_round_passes) := ⟨rfl, rfl, rfl, by decide +kernel, rfl, by decide +kernel, by decide +kernel⟩
theorem sc_House_process_dies : FnScope ["self", "process"] ["self", "process"] (defScope s_House_process_dies) := ⟨rfl, rfl, rfl, by decide +kernel, rfl, by decide +kernel, by decide +kernel⟩
theorem sc_House_go_down : FnScope ["self", "process"] ["self"] (defScope s_House_go_down) := ⟨rfl, rfl, rfl, by decide +kernel, rfl, by decide +kernel, by decide +kernel⟩
theorem sc_House_forget : FnScope ["self"] ["self"] (defScope s_House_forget) := ⟨rfl, rfl, rfl, by decide +kernel, rfl, by decide +kernel, by decide +kernel⟩
theorem sc_House_process_lives : FnScope ["self", "process"] ["self", "process"] (defScope s_House_process_lives) := ⟨rfl, rfl, rfl, by decide +kernel, rfl, by decide +kernel, by decide +kernel⟩
theorem sc_House_keeper_minds : FnScope ["self", "counting", "moment"] ["self"] (defScope s_House_keeper_minds) := ⟨rfl, rfl, rfl, by decide +kernel, rfl, by decide +kernel, by decide +kernel⟩
theorem sc_House_come_up : FnScope ["self", "process"] ["self"] (defScope s_House_come_up) := ⟨rfl, rfl, rfl, by decide +kernel, rfl, by decide +kernel, by decide +kernel⟩
theorem sc_begin : FnScope ["house", "numbers"] ["house", "numbers"] (defScope s_begin) := ⟨rfl, rfl, rfl, by decide +kernel, rfl, by decide +kernel, by decide +kernel⟩
theorem sc_ask : FnScope ["house", "numbers", "c", "server", "asked", "client"] ["house", "numbers"] (defScope s_ask) := ⟨rfl, rfl, rfl, by decide +kernel, rfl, by decide +kernel, by decide +kernel⟩
theorem sc_again : FnScope ["house", "numbers", "c", "server", "client"] ["house", "numbers"] (defScope s_again) := ⟨rfl, rfl, rfl, by decide +kernel, rfl, by decide +kernel, by decide +kernel⟩
theorem sc_take : FnScope ["house", "numbers", "k", "letter"] ["house", "numbers"] (defScope s_take) := ⟨rfl, rfl, rfl, by decide +kernel, rfl, by decide +kernel, by decide +kernel⟩
theorem sc_keep : FnScope ["house", "numbers", "k", "letter"] ["house", "numbers"] (defScope s_keep) := ⟨rfl, rfl, rfl, by decide +kernel, rfl, by decide +kernel, by decide +kernel⟩
theorem sc_lose : FnScope ["house", "numbers", "k"] ["house", "numbers"] (defScope s_lose) := ⟨rfl, rfl, rfl, by decide +kernel, rfl, by decide +kernel, by decide +kernel⟩
theorem sc_save : FnScope ["house", "numbers"] ["house", "numbers"] (defScope s_save) := ⟨rfl, rfl, rfl, by decide +kernel, rfl, by decide +kernel, by decide +kernel⟩
theorem sc_kill : FnScope ["house", "numbers", "process"] ["house", "numbers"] (defScope s_kill) := ⟨rfl, rfl, rfl, by decide +kernel, rfl, by decide +kernel, by decide +kernel⟩
theorem sc_mind : FnScope ["house", "numbers", "process"] ["house", "numbers"] (defScope s_mind) := ⟨rfl, rfl, rfl, by decide +kernel, rfl, by decide +kernel, by decide +kernel⟩
theorem sc_ticks : FnScope ["house", "numbers", "n"] ["house", "numbers"] (defScope s_ticks) := ⟨rfl, rfl, rfl, by decide +kernel, rfl, by decide +kernel, by decide +kernel⟩
theorem sc_turns : FnScope ["house", "numbers", "n", "turn"] ["house", "numbers"] (defScope s_turns) := ⟨rfl, rfl, rfl, by decide +kernel, rfl, by decide +kernel, by decide +kernel⟩
theorem sc_tell_client : FnScope ["house", "numbers", "c", "client"] ["house", "numbers"] (defScope s_tell_client) := ⟨rfl, rfl, rfl, by decide +kernel, rfl, by decide +kernel, by decide +kernel⟩
theorem sc_tell_book : FnScope ["house", "numbers"] ["house", "numbers"] (defScope s_tell_book) := ⟨rfl, rfl, rfl, by decide +kernel, rfl, by decide +kernel, by decide +kernel⟩
theorem sc_tell_disk : FnScope ["house", "numbers"] ["house", "numbers"] (defScope s_tell_disk) := ⟨rfl, rfl, rfl, by decide +kernel, rfl, by decide +kernel, by decide +kernel⟩
theorem sc_tell_process : FnScope ["house", "numbers", "process"] ["house", "numbers"] (defScope s_tell_process) := ⟨rfl, rfl, rfl, by decide +kernel, rfl, by decide +kernel, by decide +kernel⟩
theorem sc_tell_notes : FnScope ["house", "numbers"] ["house", "numbers"] (defScope s_tell_notes) := ⟨rfl, rfl, rfl, by decide +kernel, rfl, by decide +kernel, by decide +kernel⟩
theorem sc_tell_air : FnScope ["house", "numbers", "answer", "letter"] ["house", "numbers"] (defScope s_tell_air) := ⟨rfl, rfl, rfl, by decide +kernel, rfl, by decide +kernel, by decide +kernel⟩
theorem sc_answer_call : FnScope ["house", "call", "numbers"] ["house", "call", "numbers"] (defScope s_answer_call) := ⟨rfl, rfl, rfl, by decide +kernel, rfl, by decide +kernel, by decide +kernel⟩
theorem sc_answers : FnScope ["calls", "house", "told", "place", "call", "behind", "answer"] ["calls"] (defScope s_answers) := ⟨rfl, rfl, rfl, by decide +kernel, rfl, by decide +kernel, by decide +kernel⟩
theorem lk_here {k : Str} {v : V} {r : List (Str × V)} : List.lookup k ((k, v) :: r) = some v := by
  have e : (k == k) = true := beq_self_eq_true k
  simp only [List.lookup, e]
theorem lk_past {k g : Str} {v : V} {r : List (Str × V)} (h : (k == g) = false) : List.lookup k ((g, v) :: r) = List.lookup k r := by
  simp only [List.lookup, h]
theorem put_here {f : Str} {v x : V} {r : List (Str × V)} : putF f v ((f, x) :: r) = (f, v) :: r := if_pos rfl
theorem put_past {f g : Str} {v x : V} {r : List (Str × V)} (h : ¬ g = f) : putF f v ((g, x) :: r) = (g, x) :: putF f v r := if_neg h
def fBook (x0 x1 : V) : List (Str × V) := [("accounts", x0), ("done", x1)]
theorem lk_Book_accounts (x0 x1 : V) : (fBook x0 x1).lookup ("accounts" : Str) = some x0 := lk_here
theorem pt_Book_accounts (x0 x1 y : V) : putF "accounts" y (fBook x0 x1) = fBook y x1 := put_here
theorem lk_Book_done (x0 x1 : V) : (fBook x0 x1).lookup ("done" : Str) = some x1 := (lk_past (by decide +kernel)).trans (lk_here)
theorem pt_Book_done (x0 x1 y : V) : putF "done" y (fBook x0 x1) = fBook x0 y := (put_past (by decide +kernel)).trans (congrArg _ (put_here))
theorem few_Book (x0 x1 : V) : (fBook x0 x1).length < 1000 := by show 2 < 1000; decide
theorem nw_Book_accounts (x0 : V) : putF "accounts" x0 ([] : List (Str × V)) = ([("accounts", x0)] : List (Str × V)) := rfl
theorem nw_Book_done (x0 x1 : V) : putF "done" x1 ([("accounts", x0)] : List (Str × V)) = ([("accounts", x0), ("done", x1)] : List (Str × V)) := (put_past (by decide +kernel)).trans (congrArg _ (rfl))
theorem no_Book_copy (x0 x1 : V) : (fBook x0 x1).lookup ("copy" : Str) = none := (lk_past (by decide +kernel)).trans ((lk_past (by decide +kernel)).trans (rfl))
theorem no_Book_last (x0 x1 : V) : (fBook x0 x1).lookup ("last" : Str) = none := (lk_past (by decide +kernel)).trans ((lk_past (by decide +kernel)).trans (rfl))
theorem no_Book_answer_to (x0 x1 : V) : (fBook x0 x1).lookup ("answer_to" : Str) = none := (lk_past (by decide +kernel)).trans ((lk_past (by decide +kernel)).trans (rfl))
theorem no_Book_told (x0 x1 : V) : (fBook x0 x1).lookup ("told" : Str) = none := (lk_past (by decide +kernel)).trans ((lk_past (by decide +kernel)).trans (rfl))
theorem no_Book_do_request (x0 x1 : V) : (fBook x0 x1).lookup ("do_request" : Str) = none := (lk_past (by decide +kernel)).trans ((lk_past (by decide +kernel)).trans (rfl))
theorem no_Book_change_account (x0 x1 : V) : (fBook x0 x1).lookup ("change_account" : Str) = none := (lk_past (by decide +kernel)).trans ((lk_past (by decide +kernel)).trans (rfl))
def fClient (x0 x1 x2 x3 : V) : List (Str × V) := [("made", x0), ("waits", x1), ("asked", x2), ("heard", x3)]
theorem lk_Client_made (x0 x1 x2 x3 : V) : (fClient x0 x1 x2 x3).lookup ("made" : Str) = some x0 := lk_here
theorem pt_Client_made (x0 x1 x2 x3 y : V) : putF "made" y (fClient x0 x1 x2 x3) = fClient y x1 x2 x3 := put_here
theorem lk_Client_waits (x0 x1 x2 x3 : V) : (fClient x0 x1 x2 x3).lookup ("waits" : Str) = some x1 := (lk_past (by decide +kernel)).trans (lk_here)
theorem pt_Client_waits (x0 x1 x2 x3 y : V) : putF "waits" y (fClient x0 x1 x2 x3) = fClient x0 y x2 x3 := (put_past (by decide +kernel)).trans (congrArg _ (put_here))
theorem lk_Client_asked (x0 x1 x2 x3 : V) : (fClient x0 x1 x2 x3).lookup ("asked" : Str) = some x2 := (lk_past (by decide +kernel)).trans ((lk_past (by decide +kernel)).trans (lk_here))
theorem pt_Client_asked (x0 x1 x2 x3 y : V) : putF "asked" y (fClient x0 x1 x2 x3) = fClient x0 x1 y x3 := (put_past (by decide +kernel)).trans (congrArg _ ((put_past (by decide +kernel)).trans (congrArg _ (put_here))))
theorem lk_Client_heard (x0 x1 x2 x3 : V) : (fClient x0 x1 x2 x3).lookup ("heard" : Str) = some x3 := (lk_past (by decide +kernel)).trans ((lk_past (by decide +kernel)).trans ((lk_past (by decide +kernel)).trans (lk_here)))
theorem pt_Client_heard (x0 x1 x2 x3 y : V) : putF "heard" y (fClient x0 x1 x2 x3) = fClient x0 x1 x2 y := (put_past (by decide +kernel)).trans (congrArg _ ((put_past (by decide +kernel)).trans (congrArg _ ((put_past (by decide +kernel)).trans (congrArg _ (put_here))))))
theorem few_Client (x0 x1 x2 x3 : V) : (fClient x0 x1 x2 x3).length < 1000 := by show 4 < 1000; decide
theorem nw_Client_made (x0 : V) : putF "made" x0 ([] : List (Str × V)) = ([("made", x0)] : List (Str × V)) := rfl
theorem nw_Client_waits (x0 x1 : V) : putF "waits" x1 ([("made", x0)] : List (Str × V)) = ([("made", x0), ("waits", x1)] : List (Str × V)) := (put_past (by decide +kernel)).trans (congrArg _ (rfl))
theorem nw_Client_asked (x0 x1 x2 : V) : putF "asked" x2 ([("made", x0), ("waits", x1)] : List (Str × V)) = ([("made", x0), ("waits", x1), ("asked", x2)] : List (Str × V)) := (put_past (by decide +kernel)).trans (congrArg _ ((put_past (by decide +kernel)).trans (congrArg _ (rfl))))
theorem nw_Client_heard (x0 x1 x2 x3 : V) : putF "heard" x3 ([("made", x0), ("waits", x1), ("asked", x2)] : List (Str × V)) = ([("made", x0), ("waits", x1), ("asked", x2), ("heard", x3)] : List (Str × V)) := (put_past (by decide +kernel)).trans (congrArg _ ((put_past (by decide +kernel)).trans (congrArg _ ((put_past (by decide +kernel)).trans (congrArg _ (rfl))))))
def fHouse (x0 x1 x2 x3 x4 x5 x6 x7 x8 x9 : V) : List (Str × V) := [("time", x0), ("living", x1), ("lives", x2), ("clients", x3), ("book", x4), ("disk", x5), ("waiting", x6), ("noted", x7), ("times", x8), ("letters", x9)]
theorem lk_House_time (x0 x1 x2 x3 x4 x5 x6 x7 x8 x9 : V) : (fHouse x0 x1 x2 x3 x4 x5 x6 x7 x8 x9).lookup ("time" : Str) = some x0 := lk_here
theorem pt_House_time (x0 x1 x2 x3 x4 x5 x6 x7 x8 x9 y : V) : putF "time" y (fHouse x0 x1 x2 x3 x4 x5 x6 x7 x8 x9) = fHouse y x1 x2 x3 x4 x5 x6 x7 x8 x9 := put_here
theorem lk_House_living (x0 x1 x2 x3 x4 x5 x6 x7 x8 x9 : V) : (fHouse x0 x1 x2 x3 x4 x5 x6 x7 x8 x9).lookup ("living" : Str) = some x1 := (lk_past (by decide +kernel)).trans (lk_here)
theorem pt_House_living (x0 x1 x2 x3 x4 x5 x6 x7 x8 x9 y : V) : putF "living" y (fHouse x0 x1 x2 x3 x4 x5 x6 x7 x8 x9) = fHouse x0 y x2 x3 x4 x5 x6 x7 x8 x9 := (put_past (by decide +kernel)).trans (congrArg _ (put_here))
theorem lk_House_lives (x0 x1 x2 x3 x4 x5 x6 x7 x8 x9 : V) : (fHouse x0 x1 x2 x3 x4 x5 x6 x7 x8 x9).lookup ("lives" : Str) = some x2 := (lk_past (by decide +kernel)).trans ((lk_past (by decide +kernel)).trans (lk_here))
theorem pt_House_lives (x0 x1 x2 x3 x4 x5 x6 x7 x8 x9 y : V) : putF "lives" y (fHouse x0 x1 x2 x3 x4 x5 x6 x7 x8 x9) = fHouse x0 x1 y x3 x4 x5 x6 x7 x8 x9 := (put_past (by decide +kernel)).trans (congrArg _ ((put_past (by decide +kernel)).trans (congrArg _ (put_here))))
theorem lk_House_clients (x0 x1 x2 x3 x4 x5 x6 x7 x8 x9 : V) : (fHouse x0 x1 x2 x3 x4 x5 x6 x7 x8 x9).lookup ("clients" : Str) = some x3 := (lk_past (by decide +kernel)).trans ((lk_past (by decide +kernel)).trans ((lk_past (by decide +kernel)).trans (lk_here)))
theorem pt_House_clients (x0 x1 x2 x3 x4 x5 x6 x7 x8 x9 y : V) : putF "clients" y (fHouse x0 x1 x2 x3 x4 x5 x6 x7 x8 x9) = fHouse x0 x1 x2 y x4 x5 x6 x7 x8 x9 := (put_past (by decide +kernel)).trans (congrArg _ ((put_past (by decide +kernel)).trans (congrArg _ ((put_past (by decide +kernel)).trans (congrArg _ (put_here))))))
theorem lk_House_book (x0 x1 x2 x3 x4 x5 x6 x7 x8 x9 : V) : (fHouse x0 x1 x2 x3 x4 x5 x6 x7 x8 x9).lookup ("book" : Str) = some x4 := (lk_past (by decide +kernel)).trans ((lk_past (by decide +kernel)).trans ((lk_past (by decide +kernel)).trans ((lk_past (by decide +kernel)).trans (lk_here))))
theorem pt_House_book (x0 x1 x2 x3 x4 x5 x6 x7 x8 x9 y : V) : putF "book" y (fHouse x0 x1 x2 x3 x4 x5 x6 x7 x8 x9) = fHouse x0 x1 x2 x3 y x5 x6 x7 x8 x9 := (put_past (by decide +kernel)).trans (congrArg _ ((put_past (by decide +kernel)).trans (congrArg _ ((put_past (by decide +kernel)).trans (congrArg _ ((put_past (by decide +kernel)).trans (congrArg _ (put_here))))))))
theorem lk_House_disk (x0 x1 x2 x3 x4 x5 x6 x7 x8 x9 : V) : (fHouse x0 x1 x2 x3 x4 x5 x6 x7 x8 x9).lookup ("disk" : Str) = some x5 := (lk_past (by decide +kernel)).trans ((lk_past (by decide +kernel)).trans ((lk_past (by decide +kernel)).trans ((lk_past (by decide +kernel)).trans ((lk_past (by decide +kernel)).trans (lk_here)))))
theorem pt_House_disk (x0 x1 x2 x3 x4 x5 x6 x7 x8 x9 y : V) : putF "disk" y (fHouse x0 x1 x2 x3 x4 x5 x6 x7 x8 x9) = fHouse x0 x1 x2 x3 x4 y x6 x7 x8 x9 := (put_past (by decide +kernel)).trans (congrArg _ ((put_past (by decide +kernel)).trans (congrArg _ ((put_past (by decide +kernel)).trans (congrArg _ ((put_past (by decide +kernel)).trans (congrArg _ ((put_past (by decide +kernel)).trans (congrArg _ (put_here))))))))))
theorem lk_House_waiting (x0 x1 x2 x3 x4 x5 x6 x7 x8 x9 : V) : (fHouse x0 x1 x2 x3 x4 x5 x6 x7 x8 x9).lookup ("waiting" : Str) = some x6 := (lk_past (by decide +kernel)).trans ((lk_past (by decide +kernel)).trans ((lk_past (by decide +kernel)).trans ((lk_past (by decide +kernel)).trans ((lk_past (by decide +kernel)).trans ((lk_past (by decide +kernel)).trans (lk_here))))))
theorem pt_House_waiting (x0 x1 x2 x3 x4 x5 x6 x7 x8 x9 y : V) : putF "waiting" y (fHouse x0 x1 x2 x3 x4 x5 x6 x7 x8 x9) = fHouse x0 x1 x2 x3 x4 x5 y x7 x8 x9 := (put_past (by decide +kernel)).trans (congrArg _ ((put_past (by decide +kernel)).trans (congrArg _ ((put_past (by decide +kernel)).trans (congrArg _ ((put_past (by decide +kernel)).trans (congrArg _ ((put_past (by decide +kernel)).trans (congrArg _ ((put_past (by decide +kernel)).trans (congrArg _ (put_here))))))))))))
theorem lk_House_noted (x0 x1 x2 x3 x4 x5 x6 x7 x8 x9 : V) : (fHouse x0 x1 x2 x3 x4 x5 x6 x7 x8 x9).lookup ("noted" : Str) = some x7 := (lk_past (by decide +kernel)).trans ((lk_past (by decide +kernel)).trans ((lk_past (by decide +kernel)).trans ((lk_past (by decide +kernel)).trans ((lk_past (by decide +kernel)).trans ((lk_past (by decide +kernel)).trans ((lk_past (by decide +kernel)).trans (lk_here)))))))
theorem pt_House_noted (x0 x1 x2 x3 x4 x5 x6 x7 x8 x9 y : V) : putF "noted" y (fHouse x0 x1 x2 x3 x4 x5 x6 x7 x8 x9) = fHouse x0 x1 x2 x3 x4 x5 x6 y x8 x9 := (put_past (by decide +kernel)).trans (congrArg _ ((put_past (by decide +kernel)).trans (congrArg _ ((put_past (by decide +kernel)).trans (congrArg _ ((put_past (by decide +kernel)).trans (congrArg _ ((put_past (by decide +kernel)).trans (congrArg _ ((put_past (by decide +kernel)).trans (congrArg _ ((put_past (by decide +kernel)).trans (congrArg _ (put_here))))))))))))))
theorem lk_House_times (x0 x1 x2 x3 x4 x5 x6 x7 x8 x9 : V) : (fHouse x0 x1 x2 x3 x4 x5 x6 x7 x8 x9).lookup ("times" : Str) = some x8 := (lk_past (by decide +kernel)).trans ((lk_past (by decide +kernel)).trans ((lk_past (by decide +kernel)).trans ((lk_past (by decide +kernel)).trans ((lk_past (by decide +kernel)).trans ((lk_past (by decide +kernel)).trans ((lk_past (by decide +kernel)).trans ((lk_past (by decide +kernel)).trans (lk_here))))))))
theorem pt_House_times (x0 x1 x2 x3 x4 x5 x6 x7 x8 x9 y : V) : putF "times" y (fHouse x0 x1 x2 x3 x4 x5 x6 x7 x8 x9) = fHouse x0 x1 x2 x3 x4 x5 x6 x7 y x9 := (put_past (by decide +kernel)).trans (congrArg _ ((put_past (by decide +kernel)).trans (congrArg _ ((put_past (by decide +kernel)).trans (congrArg _ ((put_past (by decide +kernel)).trans (congrArg _ ((put_past (by decide +kernel)).trans (congrArg _ ((put_past (by decide +kernel)).trans (congrArg _ ((put_past (by decide +kernel)).trans (congrArg _ ((put_past (by decide +kernel)).trans (congrArg _ (put_here))))))))))))))))
theorem lk_House_letters (x0 x1 x2 x3 x4 x5 x6 x7 x8 x9 : V) : (fHouse x0 x1 x2 x3 x4 x5 x6 x7 x8 x9).lookup ("letters" : Str) = some x9 := (lk_past (by decide +kernel)).trans ((lk_past (by decide +kernel)).trans ((lk_past (by decide +kernel)).trans ((lk_past (by decide +kernel)).trans ((lk_past (by decide +kernel)).trans ((lk_past (by decide +kernel)).trans ((lk_past (by decide +kernel)).trans ((lk_past (by decide +kernel)).trans ((lk_past (by decide +kernel)).trans (lk_here)))))))))
theorem pt_House_letters (x0 x1 x2 x3 x4 x5 x6 x7 x8 x9 y : V) : putF "letters" y (fHouse x0 x1 x2 x3 x4 x5 x6 x7 x8 x9) = fHouse x0 x1 x2 x3 x4 x5 x6 x7 x8 y := (put_past (by decide +kernel)).trans (congrArg _ ((put_past (by decide +kernel)).trans (congrArg _ ((put_past (by decide +kernel)).trans (congrArg _ ((put_past (by decide +kernel)).trans (congrArg _ ((put_past (by decide +kernel)).trans (congrArg _ ((put_past (by decide +kernel)).trans (congrArg _ ((put_past (by decide +kernel)).trans (congrArg _ ((put_past (by decide +kernel)).trans (congrArg _ ((put_past (by decide +kernel)).trans (congrArg _ (put_here))))))))))))))))))
theorem few_House (x0 x1 x2 x3 x4 x5 x6 x7 x8 x9 : V) : (fHouse x0 x1 x2 x3 x4 x5 x6 x7 x8 x9).length < 1000 := by show 10 < 1000; decide
theorem nw_House_time (x0 : V) : putF "time" x0 ([] : List (Str × V)) = ([("time", x0)] : List (Str × V)) := rfl
theorem nw_House_living (x0 x1 : V) : putF "living" x1 ([("time", x0)] : List (Str × V)) = ([("time", x0), ("living", x1)] : List (Str × V)) := (put_past (by decide +kernel)).trans (congrArg _ (rfl))
theorem nw_House_lives (x0 x1 x2 : V) : putF "lives" x2 ([("time", x0), ("living", x1)] : List (Str × V)) = ([("time", x0), ("living", x1), ("lives", x2)] : List (Str × V)) := (put_past (by decide +kernel)).trans (congrArg _ ((put_past (by decide +kernel)).trans (congrArg _ (rfl))))
theorem nw_House_clients (x0 x1 x2 x3 : V) : putF "clients" x3 ([("time", x0), ("living", x1), ("lives", x2)] : List (Str × V)) = ([("time", x0), ("living", x1), ("lives", x2), ("clients", x3)] : List (Str × V)) := (put_past (by decide +kernel)).trans (congrArg _ ((put_past (by decide +kernel)).trans (congrArg _ ((put_past (by decide +kernel)).trans (congrArg _ (rfl))))))
theorem nw_House_book (x0 x1 x2 x3 x4 : V) : putF "book" x4 ([("time", x0), ("living", x1), ("lives", x2), ("clients", x3)] : List (Str × V)) = ([("time", x0), ("living", x1), ("lives", x2), ("clients", x3), ("book", x4)] : List (Str × V)) := (put_past (by decide +kernel)).trans (congrArg _ ((put_past (by decide +kernel)).trans (congrArg _ ((put_past (by decide +kernel)).trans (congrArg _ ((put_past (by decide +kernel)).trans (congrArg _ (rfl))))))))
theorem nw_House_disk (x0 x1 x2 x3 x4 x5 : V) : putF "disk" x5 ([("time", x0), ("living", x1), ("lives", x2), ("clients", x3), ("book", x4)] : List (Str × V)) = ([("time", x0), ("living", x1), ("lives", x2), ("clients", x3), ("book", x4), ("disk", x5)] : List (Str × V)) := (put_past (by decide +kernel)).trans (congrArg _ ((put_past (by decide +kernel)).trans (congrArg _ ((put_past (by decide +kernel)).trans (congrArg _ ((put_past (by decide +kernel)).trans (congrArg _ ((put_past (by decide +kernel)).trans (congrArg _ (rfl))))))))))
theorem nw_House_waiting (x0 x1 x2 x3 x4 x5 x6 : V) : putF "waiting" x6 ([("time", x0), ("living", x1), ("lives", x2), ("clients", x3), ("book", x4), ("disk", x5)] : List (Str × V)) = ([("time", x0), ("living", x1), ("lives", x2), ("clients", x3), ("book", x4), ("disk", x5), ("waiting", x6)] : List (Str × V)) := (put_past (by decide +kernel)).trans (congrArg _ ((put_past (by decide +kernel)).trans (congrArg _ ((put_past (by decide +kernel)).trans (congrArg _ ((put_past (by decide +kernel)).trans (congrArg _ ((put_past (by decide +kernel)).trans (congrArg _ ((put_past (by decide +kernel)).trans (congrArg _ (rfl))))))))))))
theorem nw_House_noted (x0 x1 x2 x3 x4 x5 x6 x7 : V) : putF "noted" x7 ([("time", x0), ("living", x1), ("lives", x2), ("clients", x3), ("book", x4), ("disk", x5), ("waiting", x6)] : List (Str × V)) = ([("time", x0), ("living", x1), ("lives", x2), ("clients", x3), ("book", x4), ("disk", x5), ("waiting", x6), ("noted", x7)] : List (Str × V)) := (put_past (by decide +kernel)).trans (congrArg _ ((put_past (by decide +kernel)).trans (congrArg _ ((put_past (by decide +kernel)).trans (congrArg _ ((put_past (by decide +kernel)).trans (congrArg _ ((put_past (by decide +kernel)).trans (congrArg _ ((put_past (by decide +kernel)).trans (congrArg _ ((put_past (by decide +kernel)).trans (congrArg _ (rfl))))))))))))))
theorem nw_House_times (x0 x1 x2 x3 x4 x5 x6 x7 x8 : V) : putF "times" x8 ([("time", x0), ("living", x1), ("lives", x2), ("clients", x3), ("book", x4), ("disk", x5), ("waiting", x6), ("noted", x7)] : List (Str × V)) = ([("time", x0), ("living", x1), ("lives", x2), ("clients", x3), ("book", x4), ("disk", x5), ("waiting", x6), ("noted", x7), ("times", x8)] : List (Str × V)) := (put_past (by decide +kernel)).trans (congrArg _ ((put_past (by decide +kernel)).trans (congrArg _ ((put_past (by decide +kernel)).trans (congrArg _ ((put_past (by decide +kernel)).trans (congrArg _ ((put_past (by decide +kernel)).trans (congrArg _ ((put_past (by decide +kernel)).trans (congrArg _ ((put_past (by decide +kernel)).trans (congrArg _ ((put_past (by decide +kernel)).trans (congrArg _ (rfl))))))))))))))))
theorem nw_House_letters (x0 x1 x2 x3 x4 x5 x6 x7 x8 x9 : V) : putF "letters" x9 ([("time", x0), ("living", x1), ("lives", x2), ("clients", x3), ("book", x4), ("disk", x5), ("waiting", x6), ("noted", x7), ("times", x8)] : List (Str × V)) = ([("time", x0), ("living", x1), ("lives", x2), ("clients", x3), ("book", x4), ("disk", x5), ("waiting", x6), ("noted", x7), ("times", x8), ("letters", x9)] : List (Str × V)) := (put_past (by decide +kernel)).trans (congrArg _ ((put_past (by decide +kernel)).trans (congrArg _ ((put_past (by decide +kernel)).trans (congrArg _ ((put_past (by decide +kernel)).trans (congrArg _ ((put_past (by decide +kernel)).trans (congrArg _ ((put_past (by decide +kernel)).trans (congrArg _ ((put_past (by decide +kernel)).trans (congrArg _ ((put_past (by decide +kernel)).trans (congrArg _ ((put_past (by decide +kernel)).trans (congrArg _ (rfl))))))))))))))))))
theorem no_House_is_full (x0 x1 x2 x3 x4 x5 x6 x7 x8 x9 : V) : (fHouse x0 x1 x2 x3 x4 x5 x6 x7 x8 x9).lookup ("is_full" : Str) = none := (lk_past (by decide +kernel)).trans ((lk_past (by decide +kernel)).trans ((lk_past (by decide +kernel)).trans ((lk_past (by decide +kernel)).trans ((lk_past (by decide +kernel)).trans ((lk_past (by decide +kernel)).trans ((lk_past (by decide +kernel)).trans ((lk_past (by decide +kernel)).trans ((lk_past (by decide +kernel)).trans ((lk_past (by decide +kernel)).trans (rfl))))))))))
theorem no_House_has_letter (x0 x1 x2 x3 x4 x5 x6 x7 x8 x9 : V) : (fHouse x0 x1 x2 x3 x4 x5 x6 x7 x8 x9).lookup ("has_letter" : Str) = none := (lk_past (by decide +kernel)).trans ((lk_past (by decide +kernel)).trans ((lk_past (by decide +kernel)).trans ((lk_past (by decide +kernel)).trans ((lk_past (by decide +kernel)).trans ((lk_past (by decide +kernel)).trans ((lk_past (by decide +kernel)).trans ((lk_past (by decide +kernel)).trans ((lk_past (by decide +kernel)).trans ((lk_past (by decide +kernel)).trans (rfl))))))))))
theorem no_House_send_request (x0 x1 x2 x3 x4 x5 x6 x7 x8 x9 : V) : (fHouse x0 x1 x2 x3 x4 x5 x6 x7 x8 x9).lookup ("send_request" : Str) = none := (lk_past (by decide +kernel)).trans ((lk_past (by decide +kernel)).trans ((lk_past (by decide +kernel)).trans ((lk_past (by decide +kernel)).trans ((lk_past (by decide +kernel)).trans ((lk_past (by decide +kernel)).trans ((lk_past (by decide +kernel)).trans ((lk_past (by decide +kernel)).trans ((lk_past (by decide +kernel)).trans ((lk_past (by decide +kernel)).trans (rfl))))))))))
theorem no_House_letter_arrives (x0 x1 x2 x3 x4 x5 x6 x7 x8 x9 : V) : (fHouse x0 x1 x2 x3 x4 x5 x6 x7 x8 x9).lookup ("letter_arrives" : Str) = none := (lk_past (by decide +kernel)).trans ((lk_past (by decide +kernel)).trans ((lk_past (by decide +kernel)).trans ((lk_past (by decide +kernel)).trans ((lk_past (by decide +kernel)).trans ((lk_past (by decide +kernel)).trans ((lk_past (by decide +kernel)).trans ((lk_past (by decide +kernel)).trans ((lk_past (by decide +kernel)).trans ((lk_past (by decide +kernel)).trans (rfl))))))))))
theorem no_House_request_arrives (x0 x1 x2 x3 x4 x5 x6 x7 x8 x9 : V) : (fHouse x0 x1 x2 x3 x4 x5 x6 x7 x8 x9).lookup ("request_arrives" : Str) = none := (lk_past (by decide +kernel)).trans ((lk_past (by decide +kernel)).trans ((lk_past (by decide +kernel)).trans ((lk_past (by decide +kernel)).trans ((lk_past (by decide +kernel)).trans ((lk_past (by decide +kernel)).trans ((lk_past (by decide +kernel)).trans ((lk_past (by decide +kernel)).trans ((lk_past (by decide +kernel)).trans ((lk_past (by decide +kernel)).trans (rfl))))))))))
theorem no_House_question_arrives (x0 x1 x2 x3 x4 x5 x6 x7 x8 x9 : V) : (fHouse x0 x1 x2 x3 x4 x5 x6 x7 x8 x9).lookup ("question_arrives" : Str) = none := (lk_past (by decide +kernel)).trans ((lk_past (by decide +kernel)).trans ((lk_past (by decide +kernel)).trans ((lk_past (by decide +kernel)).trans ((lk_past (by decide +kernel)).trans ((lk_past (by decide +kernel)).trans ((lk_past (by decide +kernel)).trans ((lk_past (by decide +kernel)).trans ((lk_past (by decide +kernel)).trans ((lk_past (by decide +kernel)).trans (rfl))))))))))
theorem no_House_reply_arrives (x0 x1 x2 x3 x4 x5 x6 x7 x8 x9 : V) : (fHouse x0 x1 x2 x3 x4 x5 x6 x7 x8 x9).lookup ("reply_arrives" : Str) = none := (lk_past (by decide +kernel)).trans ((lk_past (by decide +kernel)).trans ((lk_past (by decide +kernel)).trans ((lk_past (by decide +kernel)).trans ((lk_past (by decide +kernel)).trans ((lk_past (by decide +kernel)).trans ((lk_past (by decide +kernel)).trans ((lk_past (by decide +kernel)).trans ((lk_past (by decide +kernel)).trans ((lk_past (by decide +kernel)).trans (rfl))))))))))
theorem no_House_answer_arrives (x0 x1 x2 x3 x4 x5 x6 x7 x8 x9 : V) : (fHouse x0 x1 x2 x3 x4 x5 x6 x7 x8 x9).lookup ("answer_arrives" : Str) = none := (lk_past (by decide +kernel)).trans ((lk_past (by decide +kernel)).trans ((lk_past (by decide +kernel)).trans ((lk_past (by decide +kernel)).trans ((lk_past (by decide +kernel)).trans ((lk_past (by decide +kernel)).trans ((lk_past (by decide +kernel)).trans ((lk_past (by decide +kernel)).trans ((lk_past (by decide +kernel)).trans ((lk_past (by decide +kernel)).trans (rfl))))))))))
theorem no_House_store_is_asked (x0 x1 x2 x3 x4 x5 x6 x7 x8 x9 : V) : (fHouse x0 x1 x2 x3 x4 x5 x6 x7 x8 x9).lookup ("store_is_asked" : Str) = none := (lk_past (by decide +kernel)).trans ((lk_past (by decide +kernel)).trans ((lk_past (by decide +kernel)).trans ((lk_past (by decide +kernel)).trans ((lk_past (by decide +kernel)).trans ((lk_past (by decide +kernel)).trans ((lk_past (by decide +kernel)).trans ((lk_past (by decide +kernel)).trans ((lk_past (by decide +kernel)).trans ((lk_past (by decide +kernel)).trans (rfl))))))))))
theorem no_House_reply_to (x0 x1 x2 x3 x4 x5 x6 x7 x8 x9 : V) : (fHouse x0 x1 x2 x3 x4 x5 x6 x7 x8 x9).lookup ("reply_to" : Str) = none := (lk_past (by decide +kernel)).trans ((lk_past (by decide +kernel)).trans ((lk_past (by decide +kernel)).trans ((lk_past (by decide +kernel)).trans ((lk_past (by decide +kernel)).trans ((lk_past (by decide +kernel)).trans ((lk_past (by decide +kernel)).trans ((lk_past (by decide +kernel)).trans ((lk_past (by decide +kernel)).trans ((lk_past (by decide +kernel)).trans (rfl))))))))))
theorem no_House_store_saves (x0 x1 x2 x3 x4 x5 x6 x7 x8 x9 : V) : (fHouse x0 x1 x2 x3 x4 x5 x6 x7 x8 x9).lookup ("store_saves" : Str) = none := (lk_past (by decide +kernel)).trans ((lk_past (by decide +kernel)).trans ((lk_past (by decide +kernel)).trans ((lk_past (by decide +kernel)).trans ((lk_past (by decide +kernel)).trans ((lk_past (by decide +kernel)).trans ((lk_past (by decide +kernel)).trans ((lk_past (by decide +kernel)).trans ((lk_past (by decide +kernel)).trans ((lk_past (by decide +kernel)).trans (rfl))))))))))
theorem no_House_round_passes (x0 x1 x2 x3 x4 x5 x6 x7 x8 x9 : V) : (fHouse x0 x1 x2 x3 x4 x5 x6 x7 x8 x9).lookup ("round_passes" : Str) = none := (lk_past (by decide +kernel)).trans ((lk_past (by decide +kernel)).trans ((lk_past (by decide +kernel)).trans ((lk_past (by decide +kernel)).trans ((lk_past (by decide +kernel)).trans ((lk_past (by decide +kernel)).trans ((lk_past (by decide +kernel)).trans ((lk_past (by decide +kernel)).trans ((lk_past (by decide +kernel)).trans ((lk_past (by decide +kernel)).trans (rfl))))))))))
theorem no_House_process_dies (x0 x1 x2 x3 x4 x5 x6 x7 x8 x9 : V) : (fHouse x0 x1 x2 x3 x4 x5 x6 x7 x8 x9).lookup ("process_dies" : Str) = none := (lk_past (by decide +kernel)).trans ((lk_past (by decide +kernel)).trans ((lk_past (by decide +kernel)).trans ((lk_past (by decide +kernel)).trans ((lk_past (by decide +kernel)).trans ((lk_past (by decide +kernel)).trans ((lk_past (by decide +kernel)).trans ((lk_past (by decide +kernel)).trans ((lk_past (by decide +kernel)).trans ((lk_past (by decide +kernel)).trans (rfl))))))))))
theorem no_House_go_down (x0 x1 x2 x3 x4 x5 x6 x7 x8 x9 : V) : (fHouse x0 x1 x2 x3 x4 x5 x6 x7 x8 x9).lookup ("go_down" : Str) = none := (lk_past (by decide +kernel)).trans ((lk_past (by decide +kernel)).trans ((lk_past (by decide +kernel)).trans ((lk_past (by decide +kernel)).trans ((lk_past (by decide +kernel)).trans ((lk_past (by decide +kernel)).trans ((lk_past (by decide +kernel)).trans ((lk_past (by decide +kernel)).trans ((lk_past (by decide +kernel)).trans ((lk_past (by decide +kernel)).trans (rfl))))))))))
theorem no_House_forget (x0 x1 x2 x3 x4 x5 x6 x7 x8 x9 : V) : (fHouse x0 x1 x2 x3 x4 x5 x6 x7 x8 x9).lookup ("forget" : Str) = none := (lk_past (by decide +kernel)).trans ((lk_past (by decide +kernel)).trans ((lk_past (by decide +kernel)).trans ((lk_past (by decide +kernel)).trans ((lk_past (by decide +kernel)).trans ((lk_past (by decide +kernel)).trans ((lk_past (by decide +kernel)).trans ((lk_past (by decide +kernel)).trans ((lk_past (by decide +kernel)).trans ((lk_past (by decide +kernel)).trans (rfl))))))))))
theorem no_House_process_lives (x0 x1 x2 x3 x4 x5 x6 x7 x8 x9 : V) : (fHouse x0 x1 x2 x3 x4 x5 x6 x7 x8 x9).lookup ("process_lives" : Str) = none := (lk_past (by decide +kernel)).trans ((lk_past (by decide +kernel)).trans ((lk_past (by decide +kernel)).trans ((lk_past (by decide +kernel)).trans ((lk_past (by decide +kernel)).trans ((lk_past (by decide +kernel)).trans ((lk_past (by decide +kernel)).trans ((lk_past (by decide +kernel)).trans ((lk_past (by decide +kernel)).trans ((lk_past (by decide +kernel)).trans (rfl))))))))))
theorem no_House_keeper_minds (x0 x1 x2 x3 x4 x5 x6 x7 x8 x9 : V) : (fHouse x0 x1 x2 x3 x4 x5 x6 x7 x8 x9).lookup ("keeper_minds" : Str) = none := (lk_past (by decide +kernel)).trans ((lk_past (by decide +kernel)).trans ((lk_past (by decide +kernel)).trans ((lk_past (by decide +kernel)).trans ((lk_past (by decide +kernel)).trans ((lk_past (by decide +kernel)).trans ((lk_past (by decide +kernel)).trans ((lk_past (by decide +kernel)).trans ((lk_past (by decide +kernel)).trans ((lk_past (by decide +kernel)).trans (rfl))))))))))
theorem no_House_come_up (x0 x1 x2 x3 x4 x5 x6 x7 x8 x9 : V) : (fHouse x0 x1 x2 x3 x4 x5 x6 x7 x8 x9).lookup ("come_up" : Str) = none := (lk_past (by decide +kernel)).trans ((lk_past (by decide +kernel)).trans ((lk_past (by decide +kernel)).trans ((lk_past (by decide +kernel)).trans ((lk_past (by decide +kernel)).trans ((lk_past (by decide +kernel)).trans ((lk_past (by decide +kernel)).trans ((lk_past (by decide +kernel)).trans ((lk_past (by decide +kernel)).trans ((lk_past (by decide +kernel)).trans (rfl))))))))))
/-- where the top has laid what the defs read -/
structure Ad where
  c_Book : Addr
  c_Client : Addr
  c_House : Addr
  f_Book_init : Addr
  fd_Book_init : FuncData
  f_Book_copy : Addr
  fd_Book_copy : FuncData
  f_Book_last : Addr
  fd_Book_last : FuncData
  f_Book_answer_to : Addr
  fd_Book_answer_to : FuncData
  f_Book_told : Addr
  fd_Book_told : FuncData
  f_Book_do_request : Addr
  fd_Book_do_request : FuncData
  f_Book_change_account : Addr
  fd_Book_change_account : FuncData
  f_Client_init : Addr
  fd_Client_init : FuncData
  f_House_init : Addr
  fd_House_init : FuncData
  f_House_is_full : Addr
  fd_House_is_full : FuncData
  f_House_has_letter : Addr
  fd_House_has_letter : FuncData
  f_House_send_request : Addr
  fd_House_send_request : FuncData
  f_House_letter_arrives : Addr
  fd_House_letter_arrives : FuncData
  f_House_request_arrives : Addr
  fd_House_request_arrives : FuncData
  f_House_question_arrives : Addr
  fd_House_question_arrives : FuncData
  f_House_reply_arrives : Addr
  fd_House_reply_arrives : FuncData
  f_House_answer_arrives : Addr
  fd_House_answer_arrives : FuncData
  f_House_store_is_asked : Addr
  fd_House_store_is_asked : FuncData
  f_House_reply_to : Addr
  fd_House_reply_to : FuncData
  f_House_store_saves : Addr
  fd_House_store_saves : FuncData
  f_House_round_passes : Addr
  fd_House_round_passes : FuncData
  f_House_process_dies : Addr
  fd_House_process_dies : FuncData
  f_House_go_down : Addr
  fd_House_go_down : FuncData
  f_House_forget : Addr
  fd_House_forget : FuncData
  f_House_process_lives : Addr
  fd_House_process_lives : FuncData
  f_House_keeper_minds : Addr
  fd_House_keeper_minds : FuncData
  f_House_come_up : Addr
  fd_House_come_up : FuncData
  f_begin : Addr
  fd_begin : FuncData
  f_ask : Addr
  fd_ask : FuncData
  f_again : Addr
  fd_again : FuncData
  f_take : Addr
  fd_take : FuncData
  f_keep : Addr
  fd_keep : FuncData
  f_lose : Addr
  fd_lose : FuncData
  f_save : Addr
  fd_save : FuncData
  f_kill : Addr
  fd_kill : FuncData
  f_mind : Addr
  fd_mind : FuncData
  f_ticks : Addr
  fd_ticks : FuncData
  f_turns : Addr
  fd_turns : FuncData
  f_tell_client : Addr
  fd_tell_client : FuncData
  f_tell_book : Addr
  fd_tell_book : FuncData
  f_tell_disk : Addr
  fd_tell_disk : FuncData
  f_tell_process : Addr
  fd_tell_process : FuncData
  f_tell_notes : Addr
  fd_tell_notes : FuncData
  f_tell_air : Addr
  fd_tell_air : FuncData
  f_answer_call : Addr
  fd_answer_call : FuncData
  f_answers : Addr
  fd_answers : FuncData
  a_SERVERS : Addr
  a_PROCESSES : Addr
  a_CALLS : Addr
  a_NUMBERS : Addr
structure Txt (K : PySem.W.Frag) (mg : Str → Option Value) (d : Ad) : Prop where
  cl_Book : Cls K d.c_Book
  gc_Book : mg "Book" = some (.ref d.c_Book)
  mk_Book : Mk K d.c_Book d.f_Book_init
  na_Book_accounts : NoAttr K d.c_Book "accounts"
  na_Book_done : NoAttr K d.c_Book "done"
  cl_Client : Cls K d.c_Client
  gc_Client : mg "Client" = some (.ref d.c_Client)
  mk_Client : Mk K d.c_Client d.f_Client_init
  na_Client_made : NoAttr K d.c_Client "made"
  na_Client_waits : NoAttr K d.c_Client "waits"
  na_Client_asked : NoAttr K d.c_Client "asked"
  na_Client_heard : NoAttr K d.c_Client "heard"
  cl_House : Cls K d.c_House
  gc_House : mg "House" = some (.ref d.c_House)
  mk_House : Mk K d.c_House d.f_House_init
  na_House_time : NoAttr K d.c_House "time"
  na_House_living : NoAttr K d.c_House "living"
  na_House_lives : NoAttr K d.c_House "lives"
  na_House_clients : NoAttr K d.c_House "clients"
  na_House_book : NoAttr K d.c_House "book"
  na_House_disk : NoAttr K d.c_House "disk"
  na_House_waiting : NoAttr K d.c_House "waiting"
  na_House_noted : NoAttr K d.c_House "noted"
  na_House_times : NoAttr K d.c_House "times"
  na_House_letters : NoAttr K d.c_House "letters"
  F_Book_init : Fun K "__init__" "Book.__init__" s_Book_init d.f_Book_init d.fd_Book_init
  b_Book_init : Binds K d.fd_Book_init ["self"] []
  m_Book_init : Meth K d.c_Book "__init__" d.f_Book_init
  F_Book_copy : Fun K "copy" "Book.copy" s_Book_copy d.f_Book_copy d.fd_Book_copy
  b_Book_copy : Binds K d.fd_Book_copy ["self"] []
  m_Book_copy : Meth K d.c_Book "copy" d.f_Book_copy
  F_Book_last : Fun K "last" "Book.last" s_Book_last d.f_Book_last d.fd_Book_last
  b_Book_last : Binds K d.fd_Book_last ["self", "client"] []
  m_Book_last : Meth K d.c_Book "last" d.f_Book_last
  F_Book_answer_to : Fun K "answer_to" "Book.answer_to" s_Book_answer_to d.f_Book_answer_to d.fd_Book_answer_to
  b_Book_answer_to : Binds K d.fd_Book_answer_to ["self", "client", "number"] []
  m_Book_answer_to : Meth K d.c_Book "answer_to" d.f_Book_answer_to
  F_Book_told : Fun K "told" "Book.told" s_Book_told d.f_Book_told d.fd_Book_told
  b_Book_told : Binds K d.fd_Book_told ["self"] []
  m_Book_told : Meth K d.c_Book "told" d.f_Book_told
  F_Book_do_request : Fun K "do_request" "Book.do_request" s_Book_do_request d.f_Book_do_request d.fd_Book_do_request
  b_Book_do_request : Binds K d.fd_Book_do_request ["self", "client", "number", "asked"] []
  m_Book_do_request : Meth K d.c_Book "do_request" d.f_Book_do_request
  F_Book_change_account : Fun K "change_account" "Book.change_account" s_Book_change_account d.f_Book_change_account d.fd_Book_change_account
  b_Book_change_account : Binds K d.fd_Book_change_account ["self", "asked"] []
  m_Book_change_account : Meth K d.c_Book "change_account" d.f_Book_change_account
  F_Client_init : Fun K "__init__" "Client.__init__" s_Client_init d.f_Client_init d.fd_Client_init
  b_Client_init : Binds K d.fd_Client_init ["self"] []
  m_Client_init : Meth K d.c_Client "__init__" d.f_Client_init
  F_House_init : Fun K "__init__" "House.__init__" s_House_init d.f_House_init d.fd_House_init
  b_House_init : Binds K d.fd_House_init ["self"] []
  m_House_init : Meth K d.c_House "__init__" d.f_House_init
  F_House_is_full : Fun K "is_full" "House.is_full" s_House_is_full d.f_House_is_full d.fd_House_is_full
  b_House_is_full : Binds K d.fd_House_is_full ["self"] []
  m_House_is_full : Meth K d.c_House "is_full" d.f_House_is_full
  F_House_has_letter : Fun K "has_letter" "House.has_letter" s_House_has_letter d.f_House_has_letter d.fd_House_has_letter
  b_House_has_letter : Binds K d.fd_House_has_letter ["self", "k"] []
  m_House_has_letter : Meth K d.c_House "has_letter" d.f_House_has_letter
  F_House_send_request : Fun K "send_request" "House.send_request" s_House_send_request d.f_House_send_request d.fd_House_send_request
  b_House_send_request : Binds K d.fd_House_send_request ["self", "number_of_client", "server"] []
  m_House_send_request : Meth K d.c_House "send_request" d.f_House_send_request
  F_House_letter_arrives : Fun K "letter_arrives" "House.letter_arrives" s_House_letter_arrives d.f_House_letter_arrives d.fd_House_letter_arrives
  b_House_letter_arrives : Binds K d.fd_House_letter_arrives ["self", "letter"] []
  m_House_letter_arrives : Meth K d.c_House "letter_arrives" d.f_House_letter_arrives
  F_House_request_arrives : Fun K "request_arrives" "House.request_arrives" s_House_request_arrives d.f_House_request_arrives d.fd_House_request_arrives
  b_House_request_arrives : Binds K d.fd_House_request_arrives ["self", "letter"] []
  m_House_request_arrives : Meth K d.c_House "request_arrives" d.f_House_request_arrives
  F_House_question_arrives : Fun K "question_arrives" "House.question_arrives" s_House_question_arrives d.f_House_question_arrives d.fd_House_question_arrives
  b_House_question_arrives : Binds K d.fd_House_question_arrives ["self", "letter"] []
  m_House_question_arrives : Meth K d.c_House "question_arrives" d.f_House_question_arrives
  F_House_reply_arrives : Fun K "reply_arrives" "House.reply_arrives" s_House_reply_arrives d.f_House_reply_arrives d.fd_House_reply_arrives
  b_House_reply_arrives : Binds K d.fd_House_reply_arrives ["self", "letter"] []
  m_House_reply_arrives : Meth K d.c_House "reply_arrives" d.f_House_reply_arrives
  F_House_answer_arrives : Fun K "answer_arrives" "House.answer_arrives" s_House_answer_arrives d.f_House_answer_arrives d.fd_House_answer_arrives
  b_House_answer_arrives : Binds K d.fd_House_answer_arrives ["self", "letter"] []
  m_House_answer_arrives : Meth K d.c_House "answer_arrives" d.f_House_answer_arrives
  F_House_store_is_asked : Fun K "store_is_asked" "House.store_is_asked" s_House_store_is_asked d.f_House_store_is_asked d.fd_House_store_is_asked
  b_House_store_is_asked : Binds K d.fd_House_store_is_asked ["self", "letter"] []
  m_House_store_is_asked : Meth K d.c_House "store_is_asked" d.f_House_store_is_asked
  F_House_reply_to : Fun K "reply_to" "House.reply_to" s_House_reply_to d.f_House_reply_to d.fd_House_reply_to
  b_House_reply_to : Binds K d.fd_House_reply_to ["self", "letter"] []
  m_House_reply_to : Meth K d.c_House "reply_to" d.f_House_reply_to
  F_House_store_saves : Fun K "store_saves" "House.store_saves" s_House_store_saves d.f_House_store_saves d.fd_House_store_saves
  b_House_store_saves : Binds K d.fd_House_store_saves ["self"] []
  m_House_store_saves : Meth K d.c_House "store_saves" d.f_House_store_saves
  F_House_round_passes : Fun K "round_passes" "House.round_passes" s_House_round_passes d.f_House_round_passes d.fd_House_round_passes
  b_House_round_passes : Binds K d.fd_House_round_passes ["self"] []
  m_House_round_passes : Meth K d.c_House "round_passes" d.f_House_round_passes
  F_House_process_dies : Fun K "process_dies" "House.process_dies" s_House_process_dies d.f_House_process_dies d.fd_House_process_dies
  b_House_process_dies : Binds K d.fd_House_process_dies ["self", "process"] []
  m_House_process_dies : Meth K d.c_House "process_dies" d.f_House_process_dies
  F_House_go_down : Fun K "go_down" "House.go_down" s_House_go_down d.f_House_go_down d.fd_House_go_down
  b_House_go_down : Binds K d.fd_House_go_down ["self"] []
  m_House_go_down : Meth K d.c_House "go_down" d.f_House_go_down
  F_House_forget : Fun K "forget" "House.forget" s_House_forget d.f_House_forget d.fd_House_forget
  b_House_forget : Binds K d.fd_House_forget ["self"] []
  m_House_forget : Meth K d.c_House "forget" d.f_House_forget
  F_House_process_lives : Fun K "process_lives" "House.process_lives" s_House_process_lives d.f_House_process_lives d.fd_House_process_lives
  b_House_process_lives : Binds K d.fd_House_process_lives ["self", "process"] []
  m_House_process_lives : Meth K d.c_House "process_lives" d.f_House_process_lives
  F_House_keeper_minds : Fun K "keeper_minds" "House.keeper_minds" s_House_keeper_minds d.f_House_keeper_minds d.fd_House_keeper_minds
  b_House_keeper_minds : Binds K d.fd_House_keeper_minds ["self"] []
  m_House_keeper_minds : Meth K d.c_House "keeper_minds" d.f_House_keeper_minds
  F_House_come_up : Fun K "come_up" "House.come_up" s_House_come_up d.f_House_come_up d.fd_House_come_up
  b_House_come_up : Binds K d.fd_House_come_up ["self"] []
  m_House_come_up : Meth K d.c_House "come_up" d.f_House_come_up
  F_begin : Fun K "begin" "begin" s_begin d.f_begin d.fd_begin
  b_begin : Binds K d.fd_begin ["house", "numbers"] []
  gf_begin : mg "begin" = some (.ref d.f_begin)
  k_begin : PySem.W.keepIn K (.ref d.f_begin) = true
  F_ask : Fun K "ask" "ask" s_ask d.f_ask d.fd_ask
  b_ask : Binds K d.fd_ask ["house", "numbers"] []
  gf_ask : mg "ask" = some (.ref d.f_ask)
  k_ask : PySem.W.keepIn K (.ref d.f_ask) = true
  F_again : Fun K "again" "again" s_again d.f_again d.fd_again
  b_again : Binds K d.fd_again ["house", "numbers"] []
  gf_again : mg "again" = some (.ref d.f_again)
  k_again : PySem.W.keepIn K (.ref d.f_again) = true
  F_take : Fun K "take" "take" s_take d.f_take d.fd_take
  b_take : Binds K d.fd_take ["house", "numbers"] []
  gf_take : mg "take" = some (.ref d.f_take)
  k_take : PySem.W.keepIn K (.ref d.f_take) = true
  F_keep : Fun K "keep" "keep" s_keep d.f_keep d.fd_keep
  b_keep : Binds K d.fd_keep ["house", "numbers"] []
  gf_keep : mg "keep" = some (.ref d.f_keep)
  k_keep : PySem.W.keepIn K (.ref d.f_keep) = true
  F_lose : Fun K "lose" "lose" s_lose d.f_lose d.fd_lose
  b_lose : Binds K d.fd_lose ["house", "numbers"] []
  gf_lose : mg "lose" = some (.ref d.f_lose)
  k_lose : PySem.W.keepIn K (.ref d.f_lose) = true
  F_save : Fun K "save" "save" s_save d.f_save d.fd_save
  b_save : Binds K d.fd_save ["house", "numbers"] []
  gf_save : mg "save" = some (.ref d.f_save)
  k_save : PySem.W.keepIn K (.ref d.f_save) = true
  F_kill : Fun K "kill" "kill" s_kill d.f_kill d.fd_kill
  b_kill : Binds K d.fd_kill ["house", "numbers"] []
  gf_kill : mg "kill" = some (.ref d.f_kill)
  k_kill : PySem.W.keepIn K (.ref d.f_kill) = true
  F_mind : Fun K "mind" "mind" s_mind d.f_mind d.fd_mind
  b_mind : Binds K d.fd_mind ["house", "numbers"] []
  gf_mind : mg "mind" = some (.ref d.f_mind)
  k_mind : PySem.W.keepIn K (.ref d.f_mind) = true
  F_ticks : Fun K "ticks" "ticks" s_ticks d.f_ticks d.fd_ticks
  b_ticks : Binds K d.fd_ticks ["house", "numbers"] []
  gf_ticks : mg "ticks" = some (.ref d.f_ticks)
  k_ticks : PySem.W.keepIn K (.ref d.f_ticks) = true
  F_turns : Fun K "turns" "turns" s_turns d.f_turns d.fd_turns
  b_turns : Binds K d.fd_turns ["house", "numbers"] []
  gf_turns : mg "turns" = some (.ref d.f_turns)
  k_turns : PySem.W.keepIn K (.ref d.f_turns) = true
  F_tell_client : Fun K "tell_client" "tell_client" s_tell_client d.f_tell_client d.fd_tell_client
  b_tell_client : Binds K d.fd_tell_client ["house", "numbers"] []
  gf_tell_client : mg "tell_client" = some (.ref d.f_tell_client)
  k_tell_client : PySem.W.keepIn K (.ref d.f_tell_client) = true
  F_tell_book : Fun K "tell_book" "tell_book" s_tell_book d.f_tell_book d.fd_tell_book
  b_tell_book : Binds K d.fd_tell_book ["house", "numbers"] []
  gf_tell_book : mg "tell_book" = some (.ref d.f_tell_book)
  k_tell_book : PySem.W.keepIn K (.ref d.f_tell_book) = true
  F_tell_disk : Fun K "tell_disk" "tell_disk" s_tell_disk d.f_tell_disk d.fd_tell_disk
  b_tell_disk : Binds K d.fd_tell_disk ["house", "numbers"] []
  gf_tell_disk : mg "tell_disk" = some (.ref d.f_tell_disk)
  k_tell_disk : PySem.W.keepIn K (.ref d.f_tell_disk) = true
  F_tell_process : Fun K "tell_process" "tell_process" s_tell_process d.f_tell_process d.fd_tell_process
  b_tell_process : Binds K d.fd_tell_process ["house", "numbers"] []
  gf_tell_process : mg "tell_process" = some (.ref d.f_tell_process)
  k_tell_process : PySem.W.keepIn K (.ref d.f_tell_process) = true
  F_tell_notes : Fun K "tell_notes" "tell_notes" s_tell_notes d.f_tell_notes d.fd_tell_notes
  b_tell_notes : Binds K d.fd_tell_notes ["house", "numbers"] []
  gf_tell_notes : mg "tell_notes" = some (.ref d.f_tell_notes)
  k_tell_notes : PySem.W.keepIn K (.ref d.f_tell_notes) = true
  F_tell_air : Fun K "tell_air" "tell_air" s_tell_air d.f_tell_air d.fd_tell_air
  b_tell_air : Binds K d.fd_tell_air ["house", "numbers"] []
  gf_tell_air : mg "tell_air" = some (.ref d.f_tell_air)
  k_tell_air : PySem.W.keepIn K (.ref d.f_tell_air) = true
  F_answer_call : Fun K "answer_call" "answer_call" s_answer_call d.f_answer_call d.fd_answer_call
  b_answer_call : Binds K d.fd_answer_call ["house", "call", "numbers"] []
  gf_answer_call : mg "answer_call" = some (.ref d.f_answer_call)
  k_answer_call : PySem.W.keepIn K (.ref d.f_answer_call) = true
  F_answers : Fun K "answers" "answers" s_answers d.f_answers d.fd_answers
  b_answers : Binds K d.fd_answers ["calls"] []
  gf_answers : mg "answers" = some (.ref d.f_answers)
  k_answers : PySem.W.keepIn K (.ref d.f_answers) = true
  g_ADD : ∃ t, mg "ADD" = some (.int (0) t)
  g_TELL : ∃ t, mg "TELL" = some (.int (1) t)
  g_KEEPER : ∃ t, mg "KEEPER" = some (.int (1) t)
  g_STORE : ∃ t, mg "STORE" = some (.int (2) t)
  g_SERVERS : mg "SERVERS" = some (.ref d.a_SERVERS)
  q_SERVERS : ∀ H : Hp, SqT K H d.a_SERVERS [.int 3, .int 4]
  g_PROCESSES : mg "PROCESSES" = some (.ref d.a_PROCESSES)
  q_PROCESSES : ∀ H : Hp, SqT K H d.a_PROCESSES [.int 1, .int 2, .int 3, .int 4]
  g_REQUEST : ∃ t, mg "REQUEST" = some (.int (0) t)
  g_TO_STORE : ∃ t, mg "TO_STORE" = some (.int (1) t)
  g_FROM_STORE : ∃ t, mg "FROM_STORE" = some (.int (2) t)
  g_TO_CLIENT : ∃ t, mg "TO_CLIENT" = some (.int (3) t)
  g_NO_SUCH : ∃ t, mg "NO_SUCH" = some (.int (-1) t)
  g_NOTHING_THERE : ∃ t, mg "NOTHING_THERE" = some (.int (-5) t)
  g_TOO_MANY : ∃ t, mg "TOO_MANY" = some (.int (-6) t)
  g_NOT_NOW : ∃ t, mg "NOT_NOW" = some (.int (-8) t)
  g_MOST_WHAT : ∃ t, mg "MOST_WHAT" = some (.int (2) t)
  g_MOST_ACCOUNT : ∃ t, mg "MOST_ACCOUNT" = some (.int (3) t)
  g_MOST_MUCH : ∃ t, mg "MOST_MUCH" = some (.int (1000) t)
  g_MOST_LETTERS : ∃ t, mg "MOST_LETTERS" = some (.int (60) t)
  g_MOST_STARTS : ∃ t, mg "MOST_STARTS" = some (.int (3) t)
  g_LONGEST_AGO : ∃ t, mg "LONGEST_AGO" = some (.int (100) t)
  g_MOST_TICKS : ∃ t, mg "MOST_TICKS" = some (.int (10000) t)
  g_MOST_ROUNDS : ∃ t, mg "MOST_ROUNDS" = some (.int (200) t)
  g_CALLS : mg "CALLS" = some (.ref d.a_CALLS)
  q_CALLS : ∀ H : Hp, SqT K H d.a_CALLS [.ref d.f_begin, .ref d.f_ask, .ref d.f_again, .ref d.f_take, .ref d.f_keep, .ref d.f_lose, .ref d.f_save, .ref d.f_kill, .ref d.f_mind, .ref d.f_ticks, .ref d.f_turns, .ref d.f_tell_client, .ref d.f_tell_book, .ref d.f_tell_disk, .ref d.f_tell_process, .ref d.f_tell_notes, .ref d.f_tell_air]
  g_NUMBERS : mg "NUMBERS" = some (.ref d.a_NUMBERS)
  q_NUMBERS : ∀ H : Hp, SqT K H d.a_NUMBERS [.int 0, .int 5, .int 2, .int 1, .int 1, .int 1, .int 0, .int 1, .int 0, .int 1, .int 1, .int 1, .int 0, .int 0, .int 1, .int 0, .int 0]
  z_len : mg "len" = none
  z_list : mg "list" = none
  z_range : mg "range" = none
  z_tuple : mg "tuple" = none
end Su


namespace Su
open PySem PySem.Spec PyProof.Rows L2
/-! ### readings that leave the heap as it is -/
def Ev0 (t : TE) (σ : L2.St) (H : Hp) (v : V) : Prop := ∀ Q : VK, Q v H → t σ H Q
def Tv0 (t : TT) (σ : L2.St) (H : Hp) (b : Bool) : Prop := ∀ Q : Bool → Hp → Prop, Q b H → t σ H Q
def Ea0 (t : TA) (σ : L2.St) (H : Hp) (vs : List V) : Prop := ∀ Q : List V → Hp → Prop, Q vs H → t σ H Q
/-- a new tuple | a new list -/
def Eu0 (t : TE) (σ : L2.St) (H : Hp) (xs : List V) : Prop := ∀ Q : VK, (∀ p H', H p = none → Same H H' → H' p = some (.tup xs) → Q (.ref p) H') → t σ H Q
/-- a value, the heap larger -/
def Es0 (t : TE) (σ : L2.St) (H : Hp) (v : V) : Prop := ∀ Q : VK, (∀ H', Same H H' → Q v H') → t σ H Q
def El0 (t : TE) (σ : L2.St) (H : Hp) (xs : List V) : Prop := ∀ Q : VK, (∀ p H', H p = none → Same H H' → H' p = some (.lst xs) → Q (.ref p) H') → t σ H Q
theorem same_new {H : Hp} {p : Addr} {o : HO} (h : H p = none) : Same H (upd H p o) := fun b u e => by
  rw [upd_ne (ne_of_none e h)]
  exact e
section
variable {K : PySem.W.Frag} {σ : L2.St} {H : Hp} {ta tb te : TE} {t u : TT} {x y z v : V} {r : R2} {D : Ends} {ts us : TS}
theorem e_var {i : Nat} (h : σ[i]? = some (some v)) : Ev0 (tVar i) σ H v := fun _ q => ⟨v, h, q⟩
theorem e_c : Ev0 (tC v) σ H v := fun _ q => q
theorem e_is {w : V} (h : Ev0 te σ H v) (e : v = w) : Ev0 te σ H w := e ▸ h
theorem e_fld {a C dx : Addr} {fs : List (Str × V)} {f : Str} (h : Ev0 te σ H (.ref a)) (ha : H a = some (.ins C dx fs)) (c : Cls K C) (n : NoAttr K C f) (l : fs.lookup f = some v) : Ev0 (tFld K te f) σ H v := fun _ q => h _ ⟨a, C, dx, fs, v, rfl, ha, c, n, l, q⟩
theorem e_op (ha : Ev0 ta σ H x) (hb : Ev0 tb σ H y) (hr : ∀ Q : VK, Q z H → r x y H Q) : Ev0 (tOp r ta tb) σ H z := fun Q q => ha _ (hb _ (hr Q q))
theorem e_I0 {g : Int → Int → V} {i j : Int} (ha : Ev0 ta σ H (.int i)) (hb : Ev0 tb σ H (.int j)) : Ev0 (tOp (rI0 g) ta tb) σ H (g i j) := e_op ha hb fun _ q => ⟨i, j, rfl, rfl, q⟩
theorem e_lt {i j : Int} (ha : Ev0 ta σ H (.int i)) (hb : Ev0 tb σ H (.int j)) : Ev0 (tOp (rI0 fun i j => .bl (decide (i < j))) ta tb) σ H (.bl (decide (i < j))) := e_I0 ha hb
theorem e_le {i j : Int} (ha : Ev0 ta σ H (.int i)) (hb : Ev0 tb σ H (.int j)) : Ev0 (tOp (rI0 fun i j => .bl (decide (i ≤ j))) ta tb) σ H (.bl (decide (i ≤ j))) := e_I0 ha hb
theorem e_gt {i j : Int} (ha : Ev0 ta σ H (.int i)) (hb : Ev0 tb σ H (.int j)) : Ev0 (tOp (rI0 fun i j => .bl (decide (j < i))) ta tb) σ H (.bl (decide (j < i))) := e_I0 ha hb
theorem e_ge {i j : Int} (ha : Ev0 ta σ H (.int i)) (hb : Ev0 tb σ H (.int j)) : Ev0 (tOp (rI0 fun i j => .bl (decide (j ≤ i))) ta tb) σ H (.bl (decide (j ≤ i))) := e_I0 ha hb
theorem e_add {i j : Int} (ha : Ev0 ta σ H (.int i)) (hb : Ev0 tb σ H (.int j)) : Ev0 (tOp (rI0 fun i j => .int (i + j)) ta tb) σ H (.int (i + j)) := e_I0 ha hb
theorem e_sub {i j : Int} (ha : Ev0 ta σ H (.int i)) (hb : Ev0 tb σ H (.int j)) : Ev0 (tOp (rI0 fun i j => .int (i - j)) ta tb) σ H (.int (i - j)) := e_I0 ha hb
theorem e_eqI {i j : Int} (ha : Ev0 ta σ H (.int i)) (hb : Ev0 tb σ H (.int j)) : Ev0 (tOp rEq ta tb) σ H (.bl (decide (i = j))) := e_op ha hb fun _ q => ⟨rfl, by
  have e : decide (V.int i = V.int j) = decide (i = j) := by
    by_cases h : i = j
    · subst h; simp
    · rw [decide_eq_false h, decide_eq_false fun z => h (V.int.inj z)]
  rw [e]
  exact q⟩
theorem e_ixT {p : Addr} {xs : List V} {i : Int} (ha : Ev0 ta σ H (.ref p)) (hb : Ev0 tb σ H (.int i)) (hs : SqT K H p xs) (he : atI xs i = some v) : Ev0 (tOp (rIxT K) ta tb) σ H v := e_op ha hb fun _ q => ⟨p, xs, i, v, rfl, rfl, hs, he, q⟩
theorem e_ixL {p : Addr} {xs : List V} {i : Int} (ha : Ev0 ta σ H (.ref p)) (hb : Ev0 tb σ H (.int i)) (hs : SqL K H p xs) (he : atI xs i = some v) : Ev0 (tOp (rIxL K) ta tb) σ H v := e_op ha hb fun _ q => ⟨p, xs, i, v, rfl, rfl, hs, he, q⟩
theorem e_dget {a : Addr} {k : Int} {kvs : List (Key × V)} (hd : Ev0 ta σ H (.ref a)) (hk : Ev0 tb σ H (.int k)) (h : H a = some (.dK kvs)) (hv : valV kvs (.inl k) = some v) : Ev0 (tDGet ta tb) σ H v :=
  fun _ q => hd _ (hk _ ⟨a, v, rfl, hv ▸ DGet.k (k := Sum.inl k) h, q⟩)
theorem e_dnotin {a : Addr} {k : Int} {kvs : List (Key × V)} (hk : Ev0 tb σ H (.int k)) (hd : Ev0 ta σ H (.ref a)) (h : H a = some (.dK kvs)) : Ev0 (tDNotIn tb ta) σ H (.bl (!(valV kvs (.inl k)).isSome)) :=
  fun _ q => hk _ (hd _ ⟨a, _, rfl, DGet.k (k := Sum.inl k) h, q⟩)
theorem e_din {a : Addr} {k : Int} {kvs : List (Key × V)} (hk : Ev0 tb σ H (.int k)) (hd : Ev0 ta σ H (.ref a)) (h : H a = some (.dK kvs)) : Ev0 (tDIn tb ta) σ H (.bl (valV kvs (.inl k)).isSome) :=
  fun _ q => hk _ (hd _ ⟨a, _, rfl, DGet.k (k := Sum.inl k) h, q⟩)
theorem e_notInT {p : Addr} {xs : List V} {i : Int} (ha : Ev0 ta σ H (.int i)) (hb : Ev0 tb σ H (.ref p)) (hs : SqT K H p xs) (hf : xs.all flatV = true) : Ev0 (tOp (rIn K true) ta tb) σ H (.bl (!inV (.int i) xs)) :=
  e_op ha hb fun _ q => ⟨p, xs, rfl, .inr hs, rfl, hf, q⟩
theorem e_inT {p : Addr} {xs : List V} {i : Int} (ha : Ev0 ta σ H (.int i)) (hb : Ev0 tb σ H (.ref p)) (hs : SqT K H p xs) (hf : xs.all flatV = true) : Ev0 (tOp (rIn K false) ta tb) σ H (.bl (inV (.int i) xs)) :=
  e_op ha hb fun _ q => ⟨p, xs, rfl, .inr hs, rfl, hf, q⟩
theorem e_len {p : Addr} {xs : List V} (ha : Ev0 ta σ H (.ref p)) (hs : SqL K H p xs) : Ev0 (tCB (fun xs H Q => ∃ p ys, xs = [.ref p] ∧ (SqL K H p ys ∨ SqT K H p ys) ∧ Q (.int ys.length) H) (tCons ta tNil)) σ H (.int (xs.length : Int)) :=
  fun _ q => ha _ ⟨p, xs, rfl, .inl hs, q⟩
theorem e_lenL {xs : List V} (ha : El0 ta σ H xs) : Es0 (tCB (fun xs H Q => ∃ p ys, xs = [.ref p] ∧ (SqL K H p ys ∨ SqT K H p ys) ∧ Q (.int ys.length) H) (tCons ta tNil)) σ H (.int (xs.length : Int)) :=
  fun _ q => ha _ fun p H' _ sm e => ⟨p, xs, rfl, .inl (SqL.of e), q H' sm⟩
theorem e_andV {a b : Bool} (h1 : Ev0 ta σ H (.bl a)) (h2 : a = true → Ev0 tb σ H (.bl b)) : Ev0 (tAndV ta tb) σ H (.bl (a && b)) := fun Q q => h1 _ ⟨a, rfl, by
  cases a with
  | true => exact iteT (h2 rfl _ (by simpa using q))
  | false => exact iteF (by simpa using q)⟩
theorem e_if {b : Bool} (h : Tv0 t σ H b) (h1 : b = true → Ev0 ta σ H v) (h2 : b = false → Ev0 tb σ H v) : Ev0 (tIf t ta tb) σ H v := fun Q q => h _ (by
  cases b with
  | true => exact iteT (h1 rfl _ q)
  | false => exact iteF (h2 rfl _ q))
theorem tv_B {b : Bool} (h : Ev0 te σ H (.bl b)) : Tv0 (tB te) σ H b := fun _ q => h _ ⟨b, rfl, q⟩
theorem tv_T {b : Bool} (h : Ev0 te σ H (.bl b)) : Tv0 (tTest te) σ H b := fun _ q => h _ ⟨b, rfl, q⟩
theorem tv_not {b : Bool} (h : Tv0 t σ H b) : Tv0 (tNot t) σ H (!b) := fun _ q => h _ q
theorem tv_and {a b : Bool} (h1 : Tv0 t σ H a) (h2 : a = true → Tv0 u σ H b) : Tv0 (tAnd t u) σ H (a && b) := fun Q q => h1 _ (by
  cases a with
  | true => exact iteT (h2 rfl _ (by simpa using q))
  | false => exact iteF (by simpa using q))
theorem tv_or {a b : Bool} (h1 : Tv0 t σ H a) (h2 : a = false → Tv0 u σ H b) : Tv0 (tOr t u) σ H (a || b) := fun Q q => h1 _ (by
  cases a with
  | true => exact iteT (by simpa using q)
  | false => exact iteF (h2 rfl _ (by simpa using q)))
theorem tv_is {a b : Bool} (h : Tv0 t σ H a) (e : a = b) : Tv0 t σ H b := e ▸ h
theorem a_nil : Ea0 tNil σ H [] := fun _ q => q
theorem a_cons {tr : TA} {vs : List V} (h : Ev0 ta σ H x) (hr : Ea0 tr σ H vs) : Ea0 (tCons ta tr) σ H (x :: vs) := fun _ q => h _ (hr _ q)
theorem u_tup {tr : TA} {vs : List V} (h : Ea0 tr σ H vs) (hl : vs.length ≤ sizeLine) : Eu0 (tTup tr) σ H vs := fun _ q => h _ ⟨hl, fun p hp => q p _ hp (same_new hp) upd_same⟩
theorem l_lst {tr : TA} {vs : List V} (h : Ea0 tr σ H vs) (hl : vs.length ≤ sizeLine) : El0 (tLst tr) σ H vs := fun _ q => h _ ⟨hl, fun p hp => q p _ hp (same_new hp) upd_same⟩
theorem u_cat {b : Addr} {xs ys : List V} (ha : Eu0 ta σ H xs) (hb : ∀ H', Same H H' → Ev0 tb σ H' (.ref b)) (hs : SqT K H b ys) (nx : xs ≠ []) (ny : ys ≠ []) (hl : xs.length + ys.length ≤ sizeLine) : Eu0 (tOp (rCatT K) ta tb) σ H (xs ++ ys) :=
  fun _ q => ha _ fun p H' hp sm e => hb H' sm _ ⟨p, b, xs, ys, rfl, rfl, .inl (.inl e), by
    rcases hs with (h | ⟨o, h⟩) | h
    · exact .inl (.inl (sm _ _ h))
    · exact .inl (.inr ⟨o, sm _ _ h⟩)
    · exact .inr h, nx, hl, fun z => absurd z ny, fun _ p2 hp2 => q p2 _ (sm.free hp2) (sm.trans (same_new hp2)) upd_same⟩
theorem u_cat2 {xs ys : List V} (ha : Eu0 ta σ H xs) (hb : ∀ H', Same H H' → Eu0 tb σ H' ys) (nx : xs ≠ []) (ny : ys ≠ []) (hl : xs.length + ys.length ≤ sizeLine) : Eu0 (tOp (rCatT K) ta tb) σ H (xs ++ ys) :=
  fun _ q => ha _ fun p H' hp sm e => hb H' sm _ fun p2 H2 hp2 sm2 e2 => ⟨p, p2, xs, ys, rfl, rfl, .inl (.inl (sm2 _ _ e)), .inl (.inl e2), nx, hl, fun z => absurd z ny, fun _ p3 hp3 => q p3 _ (sm.free (sm2.free hp3)) ((sm.trans sm2).trans (same_new hp3)) upd_same⟩
theorem u_slice {a : Addr} {xs : List V} {i : Int} (h : Ev0 te σ H (.ref a)) (hi : Ev0 ta σ H (.int i)) (hs : SqT K H a xs) (hn : ¬ (HT.sIx xs.length 0 (some i) = 0)) : Eu0 (tSl (rSlT K) te (tPart ta) tNoPart) σ H (cutV xs (some i) none) :=
  fun _ q => h _ (hi _ ⟨i, rfl, a, xs, rfl, hs, fun z => hn z.1, fun p hp => q p _ hp (same_new hp) upd_same⟩)
theorem l_slice {a : Addr} {xs : List V} {i j : Int} (h : Ev0 te σ H (.ref a)) (hi : Ev0 ta σ H (.int i)) (hj : Ev0 tb σ H (.int j)) (hs : SqL K H a xs) : El0 (tSl (rSlL K) te (tPart ta) (tPart tb)) σ H (cutV xs (some i) (some j)) :=
  fun _ q => h _ (hi _ ⟨i, rfl, hj _ ⟨j, rfl, a, xs, rfl, hs, fun p hp => q p _ hp (same_new hp) upd_same⟩⟩)
theorem l_slice1 {a : Addr} {xs : List V} {i : Int} (h : Ev0 te σ H (.ref a)) (hi : Ev0 ta σ H (.int i)) (hs : SqL K H a xs) : El0 (tSl (rSlL K) te (tPart ta) tNoPart) σ H (cutV xs (some i) none) :=
  fun _ q => h _ (hi _ ⟨i, rfl, a, xs, rfl, hs, fun p hp => q p _ hp (same_new hp) upd_same⟩)
theorem l_list {a : Addr} {xs : List V} (h : Ev0 te σ H (.ref a)) (hs : SqL K H a xs ∨ SqT K H a xs) : El0 (tCB (fun xs H Q => ∃ p ys, xs = [.ref p] ∧ (SqL K H p ys ∨ SqT K H p ys) ∧ ∀ l, H l = none → Q (.ref l) (upd H l (.lst ys))) (tCons te tNil)) σ H xs :=
  fun _ q => h _ ⟨a, xs, rfl, hs, fun p hp => q p _ hp (same_new hp) upd_same⟩
/-! ### statements -/
theorem s_seq (h : ts { D with nx := us D } σ H) : tSeq ts us D σ H := h
theorem s_nil (h : D.nx σ H) : tNext D σ H := h
theorem s_set {i : Nat} (h : Ev0 te σ H v) (k : D.nx (σ.set i (some v)) H) : tAsg te (gName i) D σ H := h _ k
theorem s_setU {i : Nat} {xs : List V} (h : Eu0 te σ H xs) (k : ∀ p H', H p = none → Same H H' → H' p = some (.tup xs) → D.nx (σ.set i (some (.ref p))) H') : tAsg te (gName i) D σ H := h _ k
theorem s_setL {i : Nat} {xs : List V} (h : El0 te σ H xs) (k : ∀ p H', H p = none → Same H H' → H' p = some (.lst xs) → D.nx (σ.set i (some (.ref p))) H') : tAsg te (gName i) D σ H := h _ k
theorem s_ret (h : Ev0 te σ H v) (k : D.rt v H) : tRet te D σ H := h _ k
theorem s_retS (h : Es0 te σ H v) (k : ∀ H', Same H H' → D.rt v H') : tRet te D σ H := h _ k
theorem s_retU {xs : List V} (h : Eu0 te σ H xs) (k : ∀ p H', H p = none → Same H H' → H' p = some (.tup xs) → D.rt (.ref p) H') : tRet te D σ H := h _ k
theorem s_retL {xs : List V} (h : El0 te σ H xs) (k : ∀ p H', H p = none → Same H H' → H' p = some (.lst xs) → D.rt (.ref p) H') : tRet te D σ H := h _ k
theorem s_if {b : Bool} (h : Tv0 t σ H b) (h1 : b = true → ts D σ H) (h2 : b = false → us D σ H) : tIfS t ts us D σ H := h _ (by
  cases b with
  | true => exact iteT (h1 rfl)
  | false => exact iteF (h2 rfl))
theorem s_fld {a C dx : Addr} {fs : List (Str × V)} {f : Str} (hv : Ev0 tb σ H y) (ho : Ev0 ta σ H (.ref a)) (ha : H a = some (.ins C dx fs)) (c : Cls K C) (n : NoAttr K C f) (hf : fs.length < 1000) (k : D.nx σ (upd H a (.ins C dx (putF f y fs)))) : sFld K ta tb f D σ H :=
  hv _ (ho _ ⟨a, C, dx, fs, rfl, ha, c, n, hf, k⟩)
theorem s_fldaug {a C dx : Addr} {fs : List (Str × V)} {f : Str} {i j : Int} (ho : Ev0 ta σ H (.ref a)) (hv : Ev0 tb σ H (.int j)) (ha : H a = some (.ins C dx fs)) (c : Cls K C) (n : NoAttr K C f) (l : fs.lookup f = some (.int i)) (hf : fs.length < 1000)
    (k : D.nx σ (upd H a (.ins C dx (putF f (.int (i + j)) fs)))) : sFldAug K ta tb rAdd f D σ H :=
  ho _ ⟨a, C, dx, fs, .int i, rfl, ha, c, n, l, hv _ ⟨i, j, rfl, rfl, dx, fs, ha, hf, k⟩⟩
theorem s_dput {a : Addr} {k : Int} {kvs : List (Key × V)} (hv : Ev0 te σ H v) (hd : Ev0 ta σ H (.ref a)) (hk : Ev0 tb σ H (.int k)) (h : H a = some (.dK kvs)) (hl : kvs.length < sizeLine) (kk : D.nx σ (upd H a (.dK (putK kvs (.inl k) v)))) : sDPut ta tb te D σ H :=
  hv _ (hd _ (hk _ ⟨a, _, rfl, DPut.k (k := Sum.inl k) h hl, kk⟩))
theorem s_daug {a : Addr} {k i j : Int} {kvs : List (Key × V)} (hd : Ev0 ta σ H (.ref a)) (hk : Ev0 tb σ H (.int k)) (hv : Ev0 te σ H (.int j)) (h : H a = some (.dK kvs)) (hi : valV kvs (.inl k) = some (.int i)) (hl : kvs.length < sizeLine)
    (kk : D.nx σ (upd H a (.dK (putK kvs (.inl k) (.int (i + j)))))) : sDAug ta tb te rAdd D σ H :=
  hd _ (hk _ ⟨a, .int i, rfl, hi ▸ DGet.k (k := Sum.inl k) h, hv _ ⟨i, j, rfl, rfl, _, DPut.k (k := Sum.inl k) h hl, kk⟩⟩)
theorem s_append {l : Addr} {xs : List V} (ho : Ev0 ta σ H (.ref l)) (he : Ev0 te σ H y) (h : H l = some (.lst xs)) (hl : xs.length < sizeLine) (k : D.nx σ (upd H l (.lst (xs ++ [y])))) : tDrop (tBM K "list" rAppend ta (tCons te tNil)) D σ H :=
  ho _ ⟨.inl ⟨rfl, _, SqL.of h⟩, he _ ⟨l, xs, y, rfl, rfl, h, hl, k⟩⟩
theorem s_appendU {l : Addr} {xs ys : List V} (ho : Ev0 ta σ H (.ref l)) (he : Eu0 te σ H ys) (h : H l = some (.lst xs)) (hl : xs.length < sizeLine) (k : ∀ p H', H p = none → Same H H' → H' p = some (.tup ys) → D.nx σ (upd H' l (.lst (xs ++ [.ref p])))) : tDrop (tBM K "list" rAppend ta (tCons te tNil)) D σ H :=
  ho _ ⟨.inl ⟨rfl, _, SqL.of h⟩, he _ fun p H' hp sm e => ⟨l, xs, .ref p, rfl, rfl, sm _ _ h, hl, k p H' hp sm e⟩⟩
theorem s_extend {l b : Addr} {xs zs : List V} (ho : Ev0 ta σ H (.ref l)) (he : Ev0 te σ H (.ref b)) (h : H l = some (.lst xs)) (hb : H b = some (.lst zs)) (hl : xs.length + zs.length ≤ sizeLine) (k : D.nx σ (upd H l (.lst (xs ++ zs)))) : tDrop (tBM K "list" rExtend ta (tCons te tNil)) D σ H :=
  ho _ ⟨.inl ⟨rfl, _, SqL.of h⟩, he _ ⟨l, b, xs, zs, rfl, rfl, h, hb, hl, k⟩⟩
/-- xs.pop(i) of a place that is there -/
theorem e_pop {l : Addr} {xs : List V} {i : Int} {k : Nat} {Q : VK} (ho : Ev0 ta σ H (.ref l)) (he : Ev0 te σ H (.int i)) (h : H l = some (.lst xs)) (hi : i = (k : Int)) (hk : xs[k]? = some y) (hl : xs.length ≤ 1000000) (q : Q y (upd H l (.lst (xs.eraseIdx k)))) : tBM K "list" rPopAt ta (tCons te tNil) σ H Q := by
  have hlt : k < xs.length := (List.getElem?_eq_some_iff.mp hk).1
  refine ho _ ⟨.inl ⟨rfl, _, SqL.of h⟩, he _ ⟨l, xs, i, k, y, rfl, rfl, h, by omega, by omega, ?_, hk, q⟩⟩
  subst hi
  rw [seqIndex_of (by omega) (by omega)]
  simp
/-- a call of an own method -/
theorem c_meth {a C dx : Addr} {fs : List (Str × V)} {m : Str} {sp : Sp} {tr : TA} {vs : List V} {Q : VK} (ho : Ev0 ta σ H (.ref a)) (ha : H a = some (.ins C dx fs)) (hn : fs.lookup m = none) (has : Ea0 tr σ H vs) (k : sp (.ref a :: (vs ++ [])) H Q E0) : tMeth C m sp [] E0 ta tr σ H Q :=
  ho _ ⟨a, dx, fs, rfl, ha, hn, has _ k⟩
end
/-! ### lists of whole numbers, of tuples -/
theorem map_erase {α β : Type} (f : α → β) : ∀ (l : List α) (i : Nat), (l.map f).eraseIdx i = (l.eraseIdx i).map f
  | [], _ => rfl
  | _ :: _, 0 => rfl
  | a :: l, i + 1 => congrArg (f a :: ·) (map_erase f l i)
def nv (l : List Nat) : List V := l.map fun (n : Nat) => V.int (n : Int)
theorem nv_app (l m : List Nat) : nv (l ++ m) = nv l ++ nv m := List.map_append
theorem nv_len (l : List Nat) : (nv l).length = l.length := List.length_map ..
theorem nv_get {l : List Nat} {i : Nat} {n : Nat} (h : l[i]? = some n) : (nv l)[i]? = some (.int (n : Int)) := by
  unfold nv
  rw [List.getElem?_map, h]
  rfl
theorem nv_set (l : List Nat) (i n : Nat) : (nv l).set i (.int (n : Int)) = nv (l.set i n) := by
  unfold nv
  rw [List.map_set]
theorem nv_erase (l : List Nat) (i : Nat) : (nv l).eraseIdx i = nv (l.eraseIdx i) := by
  unfold nv
  exact map_erase _ _ _
def refs {α : Type} (l : List (Addr × α)) : List V := l.map fun p => V.ref p.1
theorem refs_snoc {α : Type} (l : List (Addr × α)) (p : Addr) (x : α) : refs (l ++ [(p, x)]) = refs l ++ [.ref p] := List.map_append
theorem refs_app {α : Type} (l m : List (Addr × α)) : refs (l ++ m) = refs l ++ refs m := List.map_append
theorem refs_len {α : Type} (l : List (Addr × α)) : (refs l).length = l.length := List.length_map ..
theorem refs_get {α : Type} {l : List (Addr × α)} {i : Nat} {p : Addr × α} (h : l[i]? = some p) : (refs l)[i]? = some (.ref p.1) := by
  unfold refs
  rw [List.getElem?_map, h]
  rfl
theorem refs_erase {α : Type} (l : List (Addr × α)) (i : Nat) : (refs l).eraseIdx i = refs (l.eraseIdx i) := by
  unfold refs
  exact map_erase _ _ _
def kv4 (f : Nat → V) : List (Key × V) := [(.inl 1, f 1), (.inl 2, f 2), (.inl 3, f 3), (.inl 4, f 4)]
theorem kv4_val (f : Nat → V) {p : Nat} (h1 : 1 ≤ p) (h4 : p ≤ 4) : valV (kv4 f) (.inl (p : Int)) = some (f p) := by
  have : p = 1 ∨ p = 2 ∨ p = 3 ∨ p = 4 := by omega
  rcases this with rfl | rfl | rfl | rfl <;> rfl
theorem kv4_put (f : Nat → V) {p : Nat} (v : V) (h1 : 1 ≤ p) (h4 : p ≤ 4) : putK (kv4 f) (.inl (p : Int)) v = kv4 fun q => if q = p then v else f q := by
  have : p = 1 ∨ p = 2 ∨ p = 3 ∨ p = 4 := by omega
  rcases this with rfl | rfl | rfl | rfl <;> rfl
theorem kv4_congr {f g : Nat → V} (h : ∀ p, 1 ≤ p → p ≤ 4 → f p = g p) : kv4 f = kv4 g := by
  unfold kv4
  rw [h 1 (by omega) (by omega), h 2 (by omega) (by omega), h 3 (by omega) (by omega), h 4 (by omega) (by omega)]
theorem sz {n : Nat} (h : n ≤ 1000000) : n ≤ sizeLine := Nat.le_trans h (by decide)
theorem szl {n : Nat} (h : n ≤ 1000000) : n < sizeLine := Nat.lt_of_le_of_lt h (by decide)
/-! ### how the house lies in the heap -/
def entTold (e : Ha10.Entry) : List Nat := [e.who, e.num] ++ Ha10.askTold e.ask ++ [e.answer]
inductive Slot where
  | house | living | lives | clients | book | bacc | bdone | disk | dacc | ddone | waiting | noted | times | letters
  | cl (i : Fin 3)
  | hd (i : Fin 3)
  deriving DecidableEq
structure Dec where
  A : Slot → Addr
  dx : Slot → Addr
  air : List (Addr × Ha10.Letter)
  wait : List (Addr × Ha10.Letter)
  bd : List (Addr × Ha10.Entry)
  dd : List (Addr × Ha10.Entry)
  aq : Fin 3 → Addr
  ak : Fin 3 → Ha10.Ask
def hFields (A : Slot → Addr) (now : Nat) : List (Str × V) := fHouse (.int (now : Int)) (.ref (A .living)) (.ref (A .lives)) (.ref (A .clients)) (.ref (A .book)) (.ref (A .disk)) (.ref (A .waiting)) (.ref (A .noted)) (.ref (A .times)) (.ref (A .letters))
def cont (d : Ad) (x : Dec) (s : Ha10.St) : Slot → HO
  | .house => .ins d.c_House (x.dx .house) (hFields x.A s.now)
  | .living => .dK (kv4 fun p => .bl (Ha10.lives s p))
  | .lives => .dK (kv4 fun p => .int ((Ha10.proc s p).life : Int))
  | .clients => .dK [(.inl 1, .ref (x.A (.cl 0))), (.inl 2, .ref (x.A (.cl 1))), (.inl 3, .ref (x.A (.cl 2)))]
  | .book => .ins d.c_Book (x.dx .book) (fBook (.ref (x.A .bacc)) (.ref (x.A .bdone)))
  | .bacc => .lst (nv s.book.values)
  | .bdone => .lst (refs x.bd)
  | .disk => .ins d.c_Book (x.dx .disk) (fBook (.ref (x.A .dacc)) (.ref (x.A .ddone)))
  | .dacc => .lst (nv s.disk.values)
  | .ddone => .lst (refs x.dd)
  | .waiting => .lst (refs x.wait)
  | .noted => .lst (nv s.notes)
  | .times => .lst (nv s.times)
  | .letters => .lst (refs x.air)
  | .cl i => .ins d.c_Client (x.dx (.cl i)) (fClient (.int ((Ha10.client s (i.val + 1)).num : Int)) (.bl (Ha10.client s (i.val + 1)).waits) (.ref (x.aq i)) (.ref (x.A (.hd i))))
  | .hd i => .lst (nv (Ha10.client s (i.val + 1)).heard)
theorem cont_tup {d : Ad} {x : Dec} {s : Ha10.St} {i : Slot} {xs : List V} : cont d x s i ≠ .tup xs := by
  cases i <;> (intro h; cases h)
def LT (H : Hp) (l : List (Addr × Ha10.Letter)) : Prop := ∀ p ∈ l, H p.1 = some (.tup (nv (Ha10.letterTold p.2)))
def ET (H : Hp) (l : List (Addr × Ha10.Entry)) : Prop := ∀ p ∈ l, H p.1 = some (.tup (nv (entTold p.2)))
structure TOK (H : Hp) (x : Dec) (s : Ha10.St) : Prop where
  air : s.air = x.air.map (·.2)
  airT : LT H x.air
  waitT : LT H x.wait
  bd : s.book.done = x.bd.map (·.2)
  bdT : ET H x.bd
  dd : s.disk.done = x.dd.map (·.2)
  ddT : ET H x.dd
  aqT : ∀ i, H (x.aq i) = some (.tup (nv (Ha10.askTold (x.ak i))))
  ask : ∀ i : Fin 3, (Ha10.client s (i.val + 1)).waits = true → (Ha10.client s (i.val + 1)).ask = x.ak i
structure HAt (d : Ad) (H : Hp) (x : Dec) (s : Ha10.St) : Prop where
  inj : ∀ i j, x.A i = x.A j → i = j
  at_ : ∀ i, H (x.A i) = some (cont d x s i)
  tk : TOK H x s
/-- what waits in the house is what the store has to send -/
def WL (x : Dec) (s : Ha10.St) : Prop := waitLetters s.book s.waiting = x.wait.map (·.2)
/-- what is tracked and not the house's own stays, and is not the house's own then -/
structure Fr (H : Hp) (x : Dec) (H' : Hp) (x' : Dec) : Prop where
  st : ∀ b o, H b = some o → (∀ i, x.A i ≠ b) → H' b = some o ∧ ∀ i, x'.A i ≠ b
  hs : x'.A .house = x.A .house
theorem Fr.refl (H : Hp) (x : Dec) : Fr H x H x := ⟨fun _ _ h k => ⟨h, k⟩, rfl⟩
theorem Fr.trans {H H1 H2 : Hp} {x x1 x2 : Dec} (a : Fr H x H1 x1) (b : Fr H1 x1 H2 x2) : Fr H x H2 x2 :=
  ⟨fun c o h k => by
    obtain ⟨h1, k1⟩ := a.st c o h k
    exact b.st c o h1 k1, b.hs.trans a.hs⟩
theorem Fr.same {H H' : Hp} (x : Dec) (sm : Same H H') : Fr H x H' x := ⟨fun b o h k => ⟨sm b o h, k⟩, rfl⟩
section
variable {d : Ad} {H H' : Hp} {x x' : Dec} {s s' : Ha10.St}
theorem LT.same {l : List (Addr × Ha10.Letter)} (sm : Same H H') (h : LT H l) : LT H' l := fun p hp => sm _ _ (h p hp)
theorem ET.same {l : List (Addr × Ha10.Entry)} (sm : Same H H') (h : ET H l) : ET H' l := fun p hp => sm _ _ (h p hp)
theorem TOK.same (sm : Same H H') (h : TOK H x s) : TOK H' x s := ⟨h.air, h.airT.same sm, h.waitT.same sm, h.bd, h.bdT.same sm, h.dd, h.ddT.same sm, fun i => sm _ _ (h.aqT i), h.ask⟩
theorem HAt.same (sm : Same H H') (h : HAt d H x s) : HAt d H' x s := ⟨h.inj, fun i => sm _ _ (h.at_ i), h.tk.same sm⟩
/-- only tuples matter to TOK -/
theorem TOK.tups (k : ∀ b xs, H b = some (.tup xs) → H' b = some (.tup xs)) (h : TOK H x s) : TOK H' x s :=
  ⟨h.air, fun p hp => k _ _ (h.airT p hp), fun p hp => k _ _ (h.waitT p hp), h.bd, fun p hp => k _ _ (h.bdT p hp), h.dd, fun p hp => k _ _ (h.ddT p hp), fun i => k _ _ (h.aqT i), h.ask⟩
theorem HAt.notup (h : HAt d H x s) {b : Addr} {xs : List V} (e : H b = some (.tup xs)) (i : Slot) : x.A i ≠ b := by
  rintro rfl
  rw [h.at_ i] at e
  exact cont_tup (Option.some.inj e)
theorem Fr.tup (f : Fr H x H' x') (h : HAt d H x s) {b : Addr} {xs : List V} (e : H b = some (.tup xs)) : H' b = some (.tup xs) := (f.st b _ e (h.notup e)).1
theorem HAt.free (h : HAt d H x s) {b : Addr} (e : H b = none) (i : Slot) : x.A i ≠ b := ne_of_none (h.at_ i) e
/-- one of the house's own objects is written -/
theorem HAt.set (h : HAt d H x s) (i : Slot) {o : HO} (eA : x'.A = x.A) (hi : cont d x' s' i = o) (hj : ∀ j, j ≠ i → cont d x' s' j = cont d x s j) (tk : TOK H x' s') : HAt d (upd H (x.A i) o) x' s' := by
  refine ⟨fun a b e => h.inj a b (by rw [eA] at e; exact e), fun j => ?_, tk.tups fun b xs e => ?_⟩
  · rw [eA]
    by_cases q : j = i
    · subst q
      rw [upd_same, hi]
    · rw [upd_ne fun z => q (h.inj _ _ z), hj j q]
      exact h.at_ j
  · rw [upd_ne fun z => h.notup e i z.symm]
    exact e
theorem Fr.set (h : HAt d H x s) (i : Slot) {o : HO} (eA : x'.A = x.A) : Fr H x (upd H (x.A i) o) x' :=
  ⟨fun b u e k => ⟨by rw [upd_ne fun z => k i z.symm]; exact e, fun j => by rw [eA]; exact k j⟩, by rw [eA]⟩
/-- one of its lists is made anew and the house told so -/
theorem HAt.renew (h : HAt d H x s) {H1 : Hp} (i : Slot) (ni : i ≠ .house) {p : Addr} {o2 : HO} (hp : H p = none) (sm : Same H H1) (eA : x'.A = fun j => if j = i then p else x.A j) (hi : H1 p = some (cont d x' s' i)) (hh : cont d x' s' .house = o2) (hj : ∀ j, j ≠ i → j ≠ .house → cont d x' s' j = cont d x s j) (tk : TOK H x' s') :
    HAt d (upd H1 (x.A .house) o2) x' s' ∧ Fr H x (upd H1 (x.A .house) o2) x' := by
  have ph : p ≠ x.A .house := fun z => h.free hp .house z.symm
  refine ⟨⟨fun a b e => ?_, fun j => ?_, tk.tups fun b xs e => ?_⟩, ⟨fun b u e k => ⟨?_, fun j => ?_⟩, ?_⟩⟩
  · rw [eA] at e
    dsimp only at e
    by_cases q : a = i
    · by_cases r : b = i
      · rw [q, r]
      · rw [if_pos q, if_neg r] at e
        exact absurd e.symm (h.free hp b)
    · by_cases r : b = i
      · rw [if_neg q, if_pos r] at e
        exact absurd e (h.free hp a)
      · rw [if_neg q, if_neg r] at e
        exact h.inj a b e
  · rw [eA]
    dsimp only
    by_cases q : j = i
    · subst q
      rw [if_pos rfl, upd_ne ph]
      exact hi
    · rw [if_neg q]
      by_cases r : j = .house
      · subst r
        rw [upd_same, hh]
      · rw [upd_ne fun z => r (h.inj _ _ z), hj j q r]
        exact sm _ _ (h.at_ j)
  · rw [upd_ne fun z => h.notup e .house z.symm]
    exact sm _ _ e
  · rw [upd_ne fun z => k .house z.symm]
    exact sm _ _ e
  · rw [eA]
    dsimp only
    by_cases q : j = i
    · rw [if_pos q]
      exact fun z => ne_of_none e hp z.symm
    · rw [if_neg q]
      exact k j
  · rw [eA]
    dsimp only
    rw [if_neg ni.symm]
/-- an object that stands already becomes one of the house's lists -/
theorem HAt.adopt (h : HAt d H x s) (i : Slot) (ni : i ≠ .house) {p : Addr} {o2 : HO} (hp : ∀ j, x.A j ≠ p) (eA : x'.A = fun j => if j = i then p else x.A j) (hi : H p = some (cont d x' s' i)) (hh : cont d x' s' .house = o2) (hj : ∀ j, j ≠ i → j ≠ .house → cont d x' s' j = cont d x s j) (tk : TOK H x' s') :
    HAt d (upd H (x.A .house) o2) x' s' ∧ (∀ b o, H b = some o → (∀ j, x.A j ≠ b) → b ≠ p → upd H (x.A .house) o2 b = some o ∧ ∀ j, x'.A j ≠ b) ∧ x'.A .house = x.A .house := by
  have ph : p ≠ x.A .house := fun z => hp .house z.symm
  refine ⟨⟨fun a b e => ?_, fun j => ?_, tk.tups fun b xs e => ?_⟩, fun b u e k nb => ⟨?_, fun j => ?_⟩, ?_⟩
  · rw [eA] at e
    dsimp only at e
    by_cases q : a = i
    · by_cases r : b = i
      · rw [q, r]
      · rw [if_pos q, if_neg r] at e
        exact absurd e.symm (hp b)
    · by_cases r : b = i
      · rw [if_neg q, if_pos r] at e
        exact absurd e (hp a)
      · rw [if_neg q, if_neg r] at e
        exact h.inj a b e
  · rw [eA]
    dsimp only
    by_cases q : j = i
    · subst q
      rw [if_pos rfl, upd_ne ph]
      exact hi
    · rw [if_neg q]
      by_cases r : j = .house
      · subst r
        rw [upd_same, hh]
      · rw [upd_ne fun z => r (h.inj _ _ z), hj j q r]
        exact h.at_ j
  · rw [upd_ne fun z => h.notup e .house z.symm]
    exact e
  · rw [upd_ne fun z => k .house z.symm]
    exact e
  · rw [eA]
    dsimp only
    by_cases q : j = i
    · rw [if_pos q]
      exact nb.symm
    · rw [if_neg q]
      exact k j
  · rw [eA]
    dsimp only
    rw [if_neg ni.symm]
/-- three of its objects are made anew (a book, its two lists) and the house told so -/
theorem HAt.renew3 (h : HAt d H x s) {H1 : Hp} {i1 i2 i3 : Slot} (n1 : i1 ≠ .house) (n2 : i2 ≠ .house) (n3 : i3 ≠ .house) (n12 : i1 ≠ i2) (n13 : i1 ≠ i3) (n23 : i2 ≠ i3) {p1 p2 p3 : Addr} {o2 : HO} (h1 : H p1 = none) (h2 : H p2 = none) (h3 : H p3 = none) (q12 : p1 ≠ p2) (q13 : p1 ≠ p3) (q23 : p2 ≠ p3) (sm : Same H H1)
    (eA : x'.A = fun j => if j = i1 then p1 else if j = i2 then p2 else if j = i3 then p3 else x.A j) (c1 : H1 p1 = some (cont d x' s' i1)) (c2 : H1 p2 = some (cont d x' s' i2)) (c3 : H1 p3 = some (cont d x' s' i3)) (hh : cont d x' s' .house = o2)
    (hj : ∀ j, j ≠ i1 → j ≠ i2 → j ≠ i3 → j ≠ .house → cont d x' s' j = cont d x s j) (tk : TOK H1 x' s') :
    HAt d (upd H1 (x.A .house) o2) x' s' ∧ Fr H x (upd H1 (x.A .house) o2) x' := by
  have a1 : x'.A i1 = p1 := by rw [eA]; dsimp only; rw [if_pos rfl]
  have a2 : x'.A i2 = p2 := by rw [eA]; dsimp only; rw [if_neg n12.symm, if_pos rfl]
  have a3 : x'.A i3 = p3 := by rw [eA]; dsimp only; rw [if_neg n13.symm, if_neg n23.symm, if_pos rfl]
  have a0 : ∀ j, j ≠ i1 → j ≠ i2 → j ≠ i3 → x'.A j = x.A j := fun j k1 k2 k3 => by rw [eA]; dsimp only; rw [if_neg k1, if_neg k2, if_neg k3]
  have ah : x'.A .house = x.A .house := a0 _ n1.symm n2.symm n3.symm
  have cases4 : ∀ j, j = i1 ∨ j = i2 ∨ j = i3 ∨ (j ≠ i1 ∧ j ≠ i2 ∧ j ≠ i3) := fun j => by
    by_cases k1 : j = i1
    · exact .inl k1
    by_cases k2 : j = i2
    · exact .inr (.inl k2)
    by_cases k3 : j = i3
    · exact .inr (.inr (.inl k3))
    exact .inr (.inr (.inr ⟨k1, k2, k3⟩))
  have hn : ∀ {p}, H p = none → p ≠ x.A .house := fun hp z => h.free hp .house z.symm
  refine ⟨⟨fun a b e => ?_, fun j => ?_, tk.tups fun b xs e => ?_⟩, ⟨fun b u e k => ⟨?_, fun j => ?_⟩, ah⟩⟩
  · rcases cases4 a with rfl | rfl | rfl | ⟨k1, k2, k3⟩ <;> rcases cases4 b with rfl | rfl | rfl | ⟨m1, m2, m3⟩ <;> first
      | rfl
      | (simp only [a1, a2, a3] at e; first | exact absurd e q12 | exact absurd e q13 | exact absurd e q23 | exact absurd e.symm q12 | exact absurd e.symm q13 | exact absurd e.symm q23)
      | (rw [a0 _ m1 m2 m3] at e; simp only [a1, a2, a3] at e; first | exact absurd e.symm (h.free h1 _) | exact absurd e.symm (h.free h2 _) | exact absurd e.symm (h.free h3 _))
      | (rw [a0 _ k1 k2 k3] at e; simp only [a1, a2, a3] at e; first | exact absurd e (h.free h1 _) | exact absurd e (h.free h2 _) | exact absurd e (h.free h3 _))
      | (rw [a0 _ k1 k2 k3, a0 _ m1 m2 m3] at e; exact h.inj _ _ e)
  · rcases cases4 j with rfl | rfl | rfl | ⟨k1, k2, k3⟩
    · rw [a1, upd_ne (hn h1)]; exact c1
    · rw [a2, upd_ne (hn h2)]; exact c2
    · rw [a3, upd_ne (hn h3)]; exact c3
    · rw [a0 _ k1 k2 k3]
      by_cases r : j = .house
      · subst r
        rw [upd_same, hh]
      · rw [upd_ne fun z => r (h.inj _ _ z), hj j k1 k2 k3 r]
        exact sm _ _ (h.at_ j)
  · have : b ≠ x.A .house := fun z => by
      rw [z, sm _ _ (h.at_ .house)] at e
      exact cont_tup (Option.some.inj e)
    rw [upd_ne this]
    exact e
  · rw [upd_ne fun z => k .house z.symm]
    exact sm _ _ e
  · rcases cases4 j with rfl | rfl | rfl | ⟨k1, k2, k3⟩
    · rw [a1]; exact fun z => ne_of_none e h1 z.symm
    · rw [a2]; exact fun z => ne_of_none e h2 z.symm
    · rw [a3]; exact fun z => ne_of_none e h3 z.symm
    · rw [a0 _ k1 k2 k3]; exact k j
end
end Su

namespace Su
open PySem PySem.Spec PyProof.Rows L2
theorem same_mut {H H2 : Hp} {p : Addr} {o : HO} (sm : Same H H2) (h : H p = none) : Same H (upd H2 p o) := fun b u e => by
  rw [upd_ne (ne_of_none e h)]
  exact sm _ _ e
theorem ix_n {n k : Nat} (h : k < n) : ixN n (k : Int) = some k := by
  unfold ixN
  rw [if_pos (by omega), if_pos (by omega)]
  simp
section
variable {K : PySem.W.Frag} {σ : L2.St} {H : Hp} {ta tb te to ti : TE} {t u : TT} {x y z v : V} {D : Ends}
theorem s_fldL {a C dx : Addr} {fs : List (Str × V)} {f : Str} {xs : List V} (hv : El0 tb σ H xs) (ho : ∀ H', Ev0 ta σ H' (.ref a)) (ha : H a = some (.ins C dx fs)) (c : Cls K C) (n : NoAttr K C f) (hf : fs.length < 1000)
    (k : ∀ p H', H p = none → Same H H' → H' p = some (.lst xs) → D.nx σ (upd H' a (.ins C dx (putF f (.ref p) fs)))) : sFld K ta tb f D σ H :=
  hv _ fun p H' hp sm e => ho H' _ ⟨a, C, dx, fs, rfl, sm _ _ ha, c, n, hf, k p H' hp sm e⟩
theorem s_fldU {a C dx : Addr} {fs : List (Str × V)} {f : Str} {xs : List V} (hv : Eu0 tb σ H xs) (ho : ∀ H', Ev0 ta σ H' (.ref a)) (ha : H a = some (.ins C dx fs)) (c : Cls K C) (n : NoAttr K C f) (hf : fs.length < 1000)
    (k : ∀ p H', H p = none → Same H H' → H' p = some (.tup xs) → D.nx σ (upd H' a (.ins C dx (putF f (.ref p) fs)))) : sFld K ta tb f D σ H :=
  hv _ fun p H' hp sm e => ho H' _ ⟨a, C, dx, fs, rfl, sm _ _ ha, c, n, hf, k p H' hp sm e⟩
theorem s_augL {l : Addr} {xs : List V} {k : Nat} {j i : Int} {f : Int → Int → Int} (ho : Ev0 to σ H (.ref l)) (hi : Ev0 ti σ H (.int (k : Int))) (he : Ev0 te σ H (.int j)) (h : H l = some (.lst xs)) (hx : xs[k]? = some (.int i))
    (kk : D.nx σ (upd H l (.lst (xs.set k (.int (f i j)))))) : tAugS to ti te (rGetL K) (ipI f) rSetL D σ H :=
  ho _ (hi _ ⟨l, xs, k, .int i, rfl, rfl, by omega, SqL.of h, atI_nat hx, he _ ⟨i, j, rfl, rfl, l, xs, k, k, rfl, rfl, h, ix_n (List.getElem?_eq_some_iff.mp hx).1, kk⟩⟩)
/-- [e for x in xs if t]: what is kept, in order -/
theorem lc_fm {α : Type} {ps : List α} {vo f : α → V} {p : α → Bool} {i : Nat} {a : Addr} (hv : Ev0 ta σ H (.ref a)) (hS : SqL K H a (ps.map vo)) (hlen : ps.length ≤ 1000000)
    (hs : ∀ y ∈ ps, ∀ H', Same H H' → Tv0 t (σ.set i (some (vo y))) H' (p y) ∧ (p y = true → Ev0 te (σ.set i (some (vo y))) H' (f y))) :
    El0 (tLc (iList K ta) (gName i) t te [i]) σ H ((ps.filter p).map f) := fun Q q => by
  refine hv _ ⟨a, rfl, ⟨_, hS⟩, fun D hD => lc_list (K := K) (a := a) (xs := ps.map vo) (fun n H' => Same H H' ∧ H' D = some (.lst (((ps.take n).filter p).map f))) ⟨same_new hD, upd_same⟩ (fun n H' _ h => h.1.seq hS) ?_ ?_⟩
  · rintro n x H' hn ⟨sm, e⟩
    obtain ⟨y, hy, rfl⟩ : ∃ y, ps[n]? = some y ∧ x = vo y := by
      rw [List.getElem?_map] at hn
      cases q : ps[n]? with
      | none => rw [q] at hn; cases hn
      | some y => rw [q] at hn; exact ⟨y, rfl, (Option.some.inj hn).symm⟩
    have hlt : n < ps.length := (List.getElem?_eq_some_iff.mp hy).1
    have tk : ps.take (n + 1) = ps.take n ++ [y] := by rw [List.take_add_one, hy]; rfl
    have ss : (wipe σ [i]).set i (some (vo y)) = σ.set i (some (vo y)) := List.set_set ..
    show wipe ((wipe σ [i]).set i (some (vo y))) [i] = wipe σ [i] ∧ _
    rw [ss]
    refine ⟨List.set_set .., ?_⟩
    obtain ⟨h1, h2⟩ := hs y (List.mem_of_getElem? hy) H' sm
    refine h1 _ ?_
    cases c : p y with
    | true =>
      refine iteT (h2 c _ ⟨_, e, ?_, same_mut sm hD, ?_⟩)
      · rw [List.length_map]
        exact Nat.lt_of_le_of_lt (List.length_filter_le _ _) (szl (by rw [List.length_take]; omega))
      · rw [upd_same, tk, List.filter_append, List.map_append]
        simp [c]
    | false =>
      refine iteF ⟨sm, ?_⟩
      rw [e, tk, List.filter_append]
      simp [c]
  · rintro H' ⟨sm, e⟩
    rw [List.length_map, List.take_length] at e
    exact q D H' hD sm e
end
structure BAt (d : Ad) (H : Hp) (a acc dn : Addr) (vals : List Nat) (ps : List (Addr × Ha10.Entry)) : Prop where
  ob : ∃ dx, H a = some (.ins d.c_Book dx (fBook (.ref acc) (.ref dn)))
  ac : H acc = some (.lst (nv vals))
  dl : H dn = some (.lst (refs ps))
  et : ET H ps
  ne : acc ≠ dn
theorem BAt.same {d : Ad} {H H' : Hp} {a acc dn : Addr} {vals : List Nat} {ps : List (Addr × Ha10.Entry)} (sm : Same H H') (h : BAt d H a acc dn vals ps) : BAt d H' a acc dn vals ps :=
  ⟨h.ob.imp fun _ e => sm _ _ e, sm _ _ h.ac, sm _ _ h.dl, h.et.same sm, h.ne⟩
theorem mkBook (x y : V) : putF "done" y (putF "accounts" x []) = fBook x y := by
  rw [nw_Book_accounts, nw_Book_done]
  rfl
/-! ### the promises -/
def sp_Book_init (K : PySem.W.Frag) (d : Ad) : Sp := fun vs H Q _ => ∃ (p dx : Addr), vs = [.ref p] ∧ H p = some (.ins d.c_Book dx []) ∧
  ∀ (H' : Hp) (acc dn : Addr), H acc = none → H dn = none → BAt d H' p acc dn [0, 0, 0, 0] [] → (∀ b o, H b = some o → b ≠ p → H' b = some o) → Q .non H'
def sp_Book_copy (K : PySem.W.Frag) (d : Ad) : Sp := fun vs H Q _ => ∃ (a acc dn : Addr) (vals : List Nat) (ps : List (Addr × Ha10.Entry)), vs = [.ref a] ∧ BAt d H a acc dn vals ps ∧
  ∀ (H' : Hp) (a' acc' dn' : Addr), H a' = none → H acc' = none → H dn' = none → BAt d H' a' acc' dn' vals ps → Same H H' → Q (.ref a') H'
def sp_Book_last (K : PySem.W.Frag) (d : Ad) : Sp := fun vs H Q _ => ∃ (a acc dn : Addr) (vals : List Nat) (ps : List (Addr × Ha10.Entry)) (c : Nat), vs = [.ref a, .int (c : Int)] ∧ BAt d H a acc dn vals ps ∧ ps.length ≤ 1000000 ∧
  ∀ H' : Hp, Same H H' → Q (.int ((Ha10.lastOf ⟨vals, ps.map (·.2)⟩ c : Nat) : Int)) H'
def sp_Book_answer_to (K : PySem.W.Frag) (d : Ad) : Sp := fun vs H Q _ => ∃ (a acc dn : Addr) (vals : List Nat) (ps : List (Addr × Ha10.Entry)) (c k : Nat) (e : Ha10.Entry), vs = [.ref a, .int (c : Int), .int (k : Int)] ∧ BAt d H a acc dn vals ps ∧ ps.length ≤ 1000000 ∧
  Ha10.entryOf ⟨vals, ps.map (·.2)⟩ c k = some e ∧ ∀ H' : Hp, Same H H' → Q (.int (e.answer : Int)) H'
def sp_Book_change_account (K : PySem.W.Frag) (d : Ad) : Sp := fun vs H Q _ => ∃ (a acc dn t : Addr) (vals : List Nat) (ps : List (Addr × Ha10.Entry)) (q : Ha10.Ask), vs = [.ref a, .ref t] ∧ BAt d H a acc dn vals ps ∧ H t = some (.tup (nv (Ha10.askTold q))) ∧ vals.length = 4 ∧ q.key ≤ 3 ∧
  ∀ H' : Hp, H' acc = some (.lst (nv (vals.set q.key (Ha10.doing q (vals.getD q.key 0)).1))) → (∀ b o, H b = some o → b ≠ acc → H' b = some o) → Q (.int ((Ha10.doing q (vals.getD q.key 0)).2 : Int)) H'
def sp_Book_do_request (K : PySem.W.Frag) (d : Ad) : Sp := fun vs H Q _ => ∃ (a acc dn t : Addr) (vals : List Nat) (ps : List (Addr × Ha10.Entry)) (c k : Nat) (q : Ha10.Ask), vs = [.ref a, .int (c : Int), .int (k : Int), .ref t] ∧ BAt d H a acc dn vals ps ∧ H t = some (.tup (nv (Ha10.askTold q))) ∧ vals.length = 4 ∧ q.key ≤ 3 ∧ ps.length ≤ 1000000 ∧
  ∀ (H' : Hp) (tp : Addr), H tp = none → BAt d H' a acc dn (vals.set q.key (Ha10.doing q (vals.getD q.key 0)).1) (ps ++ [(tp, ⟨c, k, q, (Ha10.doing q (vals.getD q.key 0)).2⟩)]) → (∀ b o, H b = some o → b ≠ acc → b ≠ dn → H' b = some o) → Q .non H'
section
variable {P : Program} {w : World} {K : PySem.W.Frag} {mg : Str → Option Value} {base : Heap} {d : Ad}
theorem ok_Book_init (T : Txt K mg d) : FnOk P w K mg base CX0 1 d.f_Book_init d.fd_Book_init ["self"] (sp_Book_init K d) := by
  refine T.F_Book_init.ok sc_Book_init (fun vs H Q E h => ?_) (fun cdv A outer sh H vs Q E hr h => ?_)
  · obtain ⟨p, dx, rfl, hp, k⟩ := h
    rfl
  obtain ⟨p, dx, rfl, hp, k⟩ := h
  refine ⟨_, (pss_cons (ps_fld (pv 0) (pe_lst (pa_cons pe_int (pa_cons pe_int (pa_cons pe_int (pa_cons pe_int pa_nil))))) rfl)
      (pss_one (ps_fld (pv 0) (pe_lst pa_nil) rfl))), ?_⟩
  refine s_seq (s_fldL (l_lst (a_cons e_c (a_cons e_c (a_cons e_c (a_cons e_c a_nil)))) (by decide)) (fun _ => e_var rfl) hp T.cl_Book T.na_Book_accounts (by decide) fun acc H1 na s1 e1 => ?_)
  have npa : p ≠ acc := ne_of_none hp na
  refine s_fldL (l_lst a_nil (by decide)) (fun _ => e_var rfl) upd_same T.cl_Book T.na_Book_done (by rw [nw_Book_accounts]; show 1 < 1000; decide) fun dn H2 nd s2 e2 => ?_
  have npd : p ≠ dn := fun z => by rw [← z, upd_same] at nd; cases nd
  have nad : acc ≠ dn := fun z => by rw [← z, upd_ne npa.symm, e1] at nd; cases nd
  have nd0 : H dn = none := by
    rw [upd_ne npd.symm] at nd
    exact s1.free nd
  refine k _ acc dn na nd0 ⟨⟨dx, by rw [upd_same, mkBook]⟩, ?_, ?_, fun p hp => absurd hp List.not_mem_nil, nad⟩ fun b o e hb => ?_
  · rw [upd_ne npa.symm]
    exact s2 _ _ (by rw [upd_ne npa.symm]; exact e1)
  · rw [upd_ne npd.symm]
    exact e2
  · rw [upd_ne hb]
    exact s2 _ _ (by rw [upd_ne hb]; exact s1 _ _ e)
/-- Book() -/
theorem c_mkBook {σ : L2.St} {H : Hp} {Q : VK} (k : ∀ (H' : Hp) (a acc dn : Addr), H a = none → H acc = none → H dn = none → BAt d H' a acc dn [0, 0, 0, 0] [] → Same H H' → Q (.ref a) H') : tMake d.c_Book (sp_Book_init K d) [] E0 tNil σ H Q := by
  intro x dx nx ndx nex
  refine ⟨x, dx, rfl, upd_same, fun H' acc dn na nd B kp => ⟨rfl, k H' x acc dn nx ?_ ?_ B (Same.made nx ndx kp)⟩⟩
  · by_cases e : acc = x
    · rw [e]; exact nx
    · by_cases e' : acc = dx
      · rw [e']; exact ndx
      · rw [upd_ne e, upd_ne e'] at na
        exact na
  · by_cases e : dn = x
    · rw [e]; exact nx
    · by_cases e' : dn = dx
      · rw [e']; exact ndx
      · rw [upd_ne e, upd_ne e'] at nd
        exact nd
theorem ok_Book_copy (T : Txt K mg d) : FnOk P w K mg base CX0 3 d.f_Book_copy d.fd_Book_copy ["self"] (sp_Book_copy K d) := by
  refine T.F_Book_copy.ok sc_Book_copy (fun vs H Q E h => ?_) (fun cdv A outer sh H vs Q E hr h => ?_)
  · obtain ⟨a, acc, dn, vals, ps, rfl, B, k⟩ := h
    rfl
  obtain ⟨a, acc, dn, vals, ps, rfl, B, k⟩ := h
  refine ⟨_, (pss_cons (ps_set (i := 1) sc_Book_copy.nd rfl (Or.inl rfl) (pe_make0 T.mk_Book (ok_Book_init T) (hr.mono (by decide)) (by rfl) T.gc_Book T.b_Book_init .nil pass0))
      (pss_cons (ps_fld (pv 1) (pe_callTy call_list_of (by rfl) T.z_list (by decide +kernel) (pa_cons (pe_fld (pv 0) rfl) pa_nil)) rfl)
      (pss_cons (ps_fld (pv 1) (pe_callTy call_list_of (by rfl) T.z_list (by decide +kernel) (pa_cons (pe_fld (pv 0) rfl) pa_nil)) rfl)
      (pss_one (ps_ret (pv 1)))))), ?_⟩
  refine s_seq (c_mkBook fun H1 x a1 d1 nx na1 nd1 B1 s1 => ?_)
  have Bh := B.same s1
  obtain ⟨da, ha⟩ := Bh.ob
  obtain ⟨dx, hx⟩ := B1.ob
  have nxa : a ≠ x := ne_of_none (B.ob.choose_spec) nx
  refine s_seq (s_fldL (l_list (e_fld (e_var rfl) ha T.cl_Book T.na_Book_accounts (lk_Book_accounts ..)) (.inl (SqL.of Bh.ac))) (fun _ => e_var rfl) hx T.cl_Book T.na_Book_accounts (few_Book ..) fun p3 H2 n3 s2 e3 => ?_)
  rw [pt_Book_accounts]
  have n3x : p3 ≠ x := fun z => by rw [z, hx] at n3; cases n3
  have s02 : Same H (upd H2 x (.ins d.c_Book dx (fBook (.ref p3) (.ref d1)))) := same_mut (s1.trans s2) nx
  have Bh2 := B.same s02
  obtain ⟨da2, ha2⟩ := Bh2.ob
  refine s_seq (s_fldL (l_list (e_fld (e_var rfl) ha2 T.cl_Book T.na_Book_done (lk_Book_done ..)) (.inl (SqL.of Bh2.dl))) (fun _ => e_var rfl) upd_same T.cl_Book T.na_Book_done (few_Book ..) fun p4 H3 n4 s3 e4 => ?_)
  rw [pt_Book_done]
  have n4x : p4 ≠ x := fun z => by rw [z, upd_same] at n4; cases n4
  have n43 : p3 ≠ p4 := fun z => by rw [← z, upd_ne n3x, e3] at n4; cases n4
  refine s_ret (e_var rfl) (k _ x p3 p4 nx (s1.free n3) (s02.free n4) ⟨⟨dx, upd_same⟩, ?_, ?_, fun p hp => ?_, n43⟩ (same_mut (s02.trans s3) nx))
  · rw [upd_ne n3x]
    exact s3 _ _ (by rw [upd_ne n3x]; exact e3)
  · rw [upd_ne n4x]
    exact e4
  · exact same_mut (s02.trans s3) nx _ _ (B.et p hp)
theorem ok_Book_last (T : Txt K mg d) : FnOk P w K mg base CX0 1 d.f_Book_last d.fd_Book_last ["self", "client"] (sp_Book_last K d) := by
  refine T.F_Book_last.ok sc_Book_last (fun vs H Q E h => ?_) (fun cdv A outer sh H vs Q E hr h => ?_)
  · obtain ⟨a, acc, dn, vals, ps, c, rfl, B, hlen, k⟩ := h
    rfl
  obtain ⟨a, acc, dn, vals, ps, c, rfl, B, hlen, k⟩ := h
  refine ⟨_, (pss_one (ps_ret (pe_callB call_len_seq (by rfl) T.z_len PySem.boot_len (pa_cons (pe_lc (own := [("one", 2)]) (g := gName 2) (tt := (tTest (tOp rEq (tOp (rIxT K) (tVar 2) (tC (.int 0))) (tVar 1)))) (te := (tVar 2)) (by rfl) sc_Book_last.nd (pi_list (pe_fld (pv 0) rfl)) (blkOk_by (own := [("one", 2)]) (N := ["self", "client", "one"]) (sc := defScope s_Book_last) (by decide +kernel)) (fun _ _ _ _ _ => pg_name (i := 2) sc_Book_last.nd rfl (Or.inl rfl)) (fun _ _ _ _ _ => pts_one (pt_cmpR op_eq (pe_ix ix_tup (pv 2) pe_int (fun _ _ => rfl)) (pv 1) (nomark _))) (fun _ _ _ _ _ => (pv 2))) pa_nil)))), ?_⟩
  obtain ⟨dx, ha⟩ := B.ob
  have hc := lc_fm (K := K) (σ := start ["self", "client", "one"] [.ref a, .int (c : Int)]) (H := H) (ps := ps) (vo := fun y => V.ref y.1) (f := fun y => V.ref y.1) (p := fun y => y.2.who == c) (i := 2) (a := dn) (ta := tFld K (tVar 0) "done")
    (t := (tTest (tOp rEq (tOp (rIxT K) (tVar 2) (tC (.int 0))) (tVar 1)))) (te := tVar 2)
    (e_fld (e_var rfl) ha T.cl_Book T.na_Book_done (lk_Book_done ..)) (SqL.of B.dl) hlen (fun y hy H' sm => ⟨?_, fun _ => e_var rfl⟩)
  · refine s_retS (e_lenL hc) fun H' sm => ?_
    have el : (((ps.filter fun y => y.2.who == c).map fun y => V.ref y.1).length : Int) = ((Ha10.lastOf ⟨vals, ps.map (·.2)⟩ c : Nat) : Int) := by
      unfold Ha10.lastOf
      rw [List.length_map, List.filter_map, List.length_map]
      rfl
    show Q (.int ((((ps.filter fun y => y.2.who == c).map fun y => V.ref y.1).length : Nat) : Int)) H'
    rw [el]
    exact k H' sm
  · refine tv_T (e_is (e_eqI (e_ixT (e_var rfl) e_c (SqT.of (sm _ _ (B.et y hy))) (at_of (j := 0) rfl rfl)) (e_var rfl)) ?_)
    congr 1
    show decide (((y.2.who : Nat) : Int) = (c : Int)) = (y.2.who == c)
    rw [Bool.eq_iff_iff]
    simp only [decide_eq_true_eq, beq_iff_eq]
    omega
theorem ok_Book_answer_to (T : Txt K mg d) : FnOk P w K mg base CX0 1 d.f_Book_answer_to d.fd_Book_answer_to ["self", "client", "number"] (sp_Book_answer_to K d) := by
  refine T.F_Book_answer_to.ok sc_Book_answer_to (fun vs H Q E h => ?_) (fun cdv A outer sh H vs Q E hr h => ?_)
  · obtain ⟨a, acc, dn, vals, ps, c, n, en, rfl, B, hlen, he, k⟩ := h
    rfl
  obtain ⟨a, acc, dn, vals, ps, c, n, en, rfl, B, hlen, he, k⟩ := h
  refine ⟨_, (pss_cons (ps_setLc (i := 3) (own := [("one", 4)]) (g := gName 4) (tt := (tAnd (tTest (tOp rEq (tOp (rIxT K) (tVar 4) (tC (.int 0))) (tVar 1))) (tTest (tOp rEq (tOp (rIxT K) (tVar 4) (tC (.int 1))) (tVar 2))))) (te := (tOp (rIxT K) (tVar 4) (tC (.int 5)))) (by rfl) sc_Book_answer_to.nd rfl rfl (sw_true rfl rfl rfl (by decide +kernel)) (pi_list (pe_fld (pv 0) rfl)) (blkOk_by (own := [("one", 4)]) (N := ["self", "client", "number", "found", "one"]) (sc := defScope s_Book_answer_to) (by decide +kernel)) (fun _ _ _ _ _ => pg_name (i := 4) sc_Book_answer_to.nd rfl (Or.inl rfl)) (fun _ _ _ _ _ => pts_one (PW.pt (pw_and (pt_cmpR op_eq (pe_ix ix_tup (pv 4) pe_int (fun _ _ => rfl)) (pv 1) (nomark _)) (pw_and1 (pt_cmpR op_eq (pe_ix ix_tup (pv 4) pe_int (fun _ _ => rfl)) (pv 2) (nomark _)))))) (fun _ _ _ _ _ => (pe_ix ix_tup (pv 4) pe_int (fun _ _ => rfl))))
      (pss_one (ps_ret (pe_ix ix_list (pv 3) pe_int (fun _ _ => rfl))))), ?_⟩
  obtain ⟨dx, ha⟩ := B.ob
  have hc := lc_fm (K := K) (σ := start ["self", "client", "number", "found", "one"] [.ref a, .int (c : Int), .int (n : Int)]) (H := H) (ps := ps) (vo := fun y => V.ref y.1) (f := fun y => V.int (y.2.answer : Int)) (p := fun y => y.2.who == c && y.2.num == n) (i := 4) (a := dn) (ta := tFld K (tVar 0) "done")
    (t := (tAnd (tTest (tOp rEq (tOp (rIxT K) (tVar 4) (tC (.int 0))) (tVar 1))) (tTest (tOp rEq (tOp (rIxT K) (tVar 4) (tC (.int 1))) (tVar 2))))) (te := (tOp (rIxT K) (tVar 4) (tC (.int 5))))
    (e_fld (e_var rfl) ha T.cl_Book T.na_Book_done (lk_Book_done ..)) (SqL.of B.dl) hlen (fun y hy H' sm => ⟨?_, fun _ => e_ixT (e_var rfl) e_c (SqT.of (sm _ _ (B.et y hy))) (at_of (j := 5) rfl rfl)⟩)
  · refine s_seq (s_setL hc fun p H' hp sm e => ?_)
    refine s_ret (v := .int (en.answer : Int)) (e_ixL (e_var rfl) e_c (SqL.of e) (at_of (j := 0) rfl ?_)) (k H' sm)
    have hf : (ps.filter fun y => y.2.who == c && y.2.num == n).map (·.2) = ((ps.map (·.2)).filter fun e => e.who == c && e.num == n) := by
      rw [List.filter_map]
      rfl
    unfold Ha10.entryOf at he
    rw [find_filter, ← hf] at he
    cases q : ps.filter fun y => y.2.who == c && y.2.num == n with
    | nil => rw [q] at he; cases he
    | cons y r =>
      rw [q] at he
      have e1 : y.2 = en := Option.some.inj he
      show some (V.int ((y.2.answer : Nat) : Int)) = _
      rw [e1]
  · have h1 : decide (((y.2.who : Nat) : Int) = (c : Int)) = (y.2.who == c) := by
      rw [Bool.eq_iff_iff]
      simp only [decide_eq_true_eq, beq_iff_eq]
      omega
    have h2 : decide (((y.2.num : Nat) : Int) = (n : Int)) = (y.2.num == n) := by
      rw [Bool.eq_iff_iff]
      simp only [decide_eq_true_eq, beq_iff_eq]
      omega
    show Tv0 _ _ _ (y.2.who == c && y.2.num == n)
    rw [← h1, ← h2]
    exact tv_and (tv_T (e_eqI (e_ixT (e_var rfl) e_c (SqT.of (sm _ _ (B.et y hy))) (at_of (j := 0) rfl rfl)) (e_var rfl))) fun _ =>
      tv_T (e_eqI (e_ixT (e_var rfl) e_c (SqT.of (sm _ _ (B.et y hy))) (at_of (j := 1) rfl rfl)) (e_var rfl))
theorem ok_Book_change_account (T : Txt K mg d) : FnOk P w K mg base CX0 1 d.f_Book_change_account d.fd_Book_change_account ["self", "asked"] (sp_Book_change_account K d) := by
  refine T.F_Book_change_account.ok sc_Book_change_account (fun vs H Q E h => ?_) (fun cdv A outer sh H vs Q E hr h => ?_)
  · obtain ⟨a, acc, dn, t, vals, ps, q, rfl, B, ht, hv, hk, k⟩ := h
    rfl
  obtain ⟨a, acc, dn, t, vals, ps, q, rfl, B, ht, hv, hk, k⟩ := h
  refine ⟨_, (pss_cons (ps_set (i := 2) sc_Book_change_account.nd rfl (Or.inl rfl) (pe_ix ix_tup (pv 1) pe_int (fun _ _ => rfl)))
      (pss_cons (ps_set (i := 3) sc_Book_change_account.nd rfl (Or.inl rfl) (pe_ix ix_tup (pv 1) pe_int (fun _ _ => rfl)))
      (pss_cons (ps_set (i := 4) sc_Book_change_account.nd rfl (Or.inl rfl) (pe_ix ix_tup (pv 1) pe_int (fun _ _ => rfl)))
      (pss_cons (ps_if (pt_cmpR op_eq (pv 2) (pe_gI (by rfl) T.g_ADD) (nomark _)) (pss_cons (ps_augS (pe_fld (pv 0) rfl) (pv 3) get_list (pv 4) ip_add set_list)
      (pss_one (ps_ret (pe_ix ix_list (pe_fld (pv 0) rfl) (pv 3) (fun _ _ => rfl))))) pss_nil)
      (pss_cons (ps_if (pt_cmpR op_eq (pv 2) (pe_gI (by rfl) T.g_TELL) (nomark _)) (pss_one (ps_ret (pe_ix ix_list (pe_fld (pv 0) rfl) (pv 3) (fun _ _ => rfl)))) pss_nil)
      (pss_cons (ps_if (pt_cmpR op_lt (pe_ix ix_list (pe_fld (pv 0) rfl) (pv 3) (fun _ _ => rfl)) (pv 4) (nomark _)) (pss_one (ps_ret pe_int)) pss_nil)
      (pss_cons (ps_augS (pe_fld (pv 0) rfl) (pv 3) get_list (pv 4) ip_sub set_list)
      (pss_one (ps_ret pe_int))))))))), ?_⟩
  obtain ⟨dx, ha⟩ := B.ob
  have hlt : q.key < vals.length := by omega
  have hget : vals[q.key]? = some (vals.getD q.key 0) := by
    rw [List.getD_eq_getElem?_getD, List.getElem?_eq_getElem hlt]
    rfl
  have hn := nv_get hget
  have na : a ≠ acc := ne_of ha B.ac (by intro z; cases z)
  refine s_seq (s_set (v := .int (q.what : Int)) (e_ixT (e_var rfl) e_c (SqT.of ht) (at_of (j := 0) rfl rfl)) ?_)
  refine s_seq (s_set (v := .int (q.key : Int)) (e_ixT (e_var rfl) e_c (SqT.of ht) (at_of (j := 1) rfl rfl)) ?_)
  refine s_seq (s_set (v := .int (q.n : Int)) (e_ixT (e_var rfl) e_c (SqT.of ht) (at_of (j := 2) rfl rfl)) ?_)
  have stay : ∀ z, ∀ b o, H b = some o → b ≠ acc → upd H acc z b = some o := fun z b o e hb => by
    rw [upd_ne hb]
    exact e
  refine s_seq (s_if (tv_T (e_eqI (e_var rfl) e_c)) (fun h0 => ?_) (fun h0 => ?_))
  · have w0 : q.what = 0 := by
      have := of_decide_eq_true h0
      omega
    have hd : Ha10.doing q (vals.getD q.key 0) = (vals.getD q.key 0 + q.n, vals.getD q.key 0 + q.n) := by
      unfold Ha10.doing
      rw [w0]
      rfl
    rw [hd] at k
    refine s_seq (s_augL (e_fld (e_var rfl) ha T.cl_Book T.na_Book_accounts (lk_Book_accounts ..)) (e_var rfl) (e_var rfl) B.ac hn ?_)
    refine s_ret (v := .int ((vals.getD q.key 0 + q.n : Nat) : Int)) (e_ixL (xs := nv (vals.set q.key (vals.getD q.key 0 + q.n))) (e_fld (e_var rfl) (by rw [upd_ne na]; exact ha) T.cl_Book T.na_Book_accounts (lk_Book_accounts ..)) (e_var rfl) (SqL.of ?_) (at_of rfl (nv_get (by rw [List.getElem?_set_self hlt])))) (k _ ?_ (stay _))
    · rw [upd_same, ← nv_set]
      rfl
    · rw [upd_same, ← nv_set]
      rfl
  · have w0 : q.what ≠ 0 := by
      have := of_decide_eq_false h0
      omega
    refine s_seq (s_if (tv_T (e_eqI (e_var rfl) e_c)) (fun h1 => ?_) (fun h1 => ?_))
    · have w1 : q.what = 1 := by
        have := of_decide_eq_true h1
        omega
      have hd : Ha10.doing q (vals.getD q.key 0) = (vals.getD q.key 0, vals.getD q.key 0) := by
        unfold Ha10.doing
        rw [w1]
        rfl
      rw [hd] at k
      refine s_ret (v := .int ((vals.getD q.key 0 : Nat) : Int)) (e_ixL (e_fld (e_var rfl) ha T.cl_Book T.na_Book_accounts (lk_Book_accounts ..)) (e_var rfl) (SqL.of B.ac) (at_of rfl hn)) (k _ ?_ fun b o e _ => e)
      rw [B.ac]
      congr 3
      rw [List.getD_eq_getElem?_getD, List.getElem?_eq_getElem hlt]
      exact (List.set_getElem_self hlt).symm
    · have w1 : q.what ≠ 1 := by
        have := of_decide_eq_false h1
        omega
      have hd : Ha10.doing q (vals.getD q.key 0) = if q.n ≤ vals.getD q.key 0 then (vals.getD q.key 0 - q.n, 1) else (vals.getD q.key 0, 0) := by
        unfold Ha10.doing
        match e : q.what, w0, w1 with
        | 0, z, _ => exact absurd rfl z
        | 1, _, z => exact absurd rfl z
        | n + 2, _, _ => rfl
      rw [hd] at k
      refine s_seq (s_if (tv_T (e_lt (e_ixL (e_fld (e_var rfl) ha T.cl_Book T.na_Book_accounts (lk_Book_accounts ..)) (e_var rfl) (SqL.of B.ac) (at_of rfl hn)) (e_var rfl))) (fun h2 => ?_) (fun h2 => ?_))
      · have c : ¬ q.n ≤ vals.getD q.key 0 := by
          have := of_decide_eq_true h2
          omega
        rw [if_neg c] at k
        refine s_ret e_c (k _ ?_ fun b o e _ => e)
        rw [B.ac]
        congr 3
        rw [List.getD_eq_getElem?_getD, List.getElem?_eq_getElem hlt]
        exact (List.set_getElem_self hlt).symm
      · have c : q.n ≤ vals.getD q.key 0 := by
          have := of_decide_eq_false h2
          omega
        rw [if_pos c] at k
        refine s_seq (s_augL (e_fld (e_var rfl) ha T.cl_Book T.na_Book_accounts (lk_Book_accounts ..)) (e_var rfl) (e_var rfl) B.ac hn ?_)
        dsimp only
        refine s_ret (v := .int 1) e_c ?_
        refine k _ ?_ (stay _)
        rw [upd_same, ← nv_set, Int.ofNat_sub c]
theorem ok_Book_do_request (T : Txt K mg d) : FnOk P w K mg base CX0 2 d.f_Book_do_request d.fd_Book_do_request ["self", "client", "number", "asked"] (sp_Book_do_request K d) := by
  refine T.F_Book_do_request.ok sc_Book_do_request (fun vs H Q E h => ?_) (fun cdv A outer sh H vs Q E hr h => ?_)
  · obtain ⟨a, acc, dn, t, vals, ps, c, n, q, rfl, B, ht, hv, hk, hl, k⟩ := h
    rfl
  obtain ⟨a, acc, dn, t, vals, ps, c, n, q, rfl, B, ht, hv, hk, hl, k⟩ := h
  refine ⟨_, (pss_cons (ps_set (i := 4) sc_Book_do_request.nd rfl (Or.inl rfl) (pe_meth (pv 0) T.cl_Book T.m_Book_change_account (ok_Book_change_account T) (hr.mono (by decide)) T.b_Book_change_account .nil pass0 (pa_cons (pv 3) pa_nil)))
      (pss_one (ps_expr (pe_bm PySem.F.plainAttrs_list PySem.F.slot_list_append PySem.F.type_list_append mt_append (pe_fld (pv 0) rfl) (pa_cons (pe_op op_catT (pe_op op_catT (pe_tup (pa_cons (pv 1) (pa_cons (pv 2) pa_nil))) (pv 3)) (pe_tup (pa_cons (pv 4) pa_nil))) pa_nil))))), ?_⟩
  obtain ⟨dx, ha⟩ := B.ob
  refine s_seq (c_meth (e_var rfl) ha (no_Book_change_account ..) (a_cons (e_var rfl) a_nil) ⟨a, acc, dn, t, vals, ps, q, rfl, B, ht, hv, hk, fun H1 e1 st => ?_⟩)
  have na : a ≠ acc := ne_of ha B.ac (by intro z; cases z)
  have nt : t ≠ acc := ne_of ht B.ac (by intro z; cases z)
  have hd := st _ _ B.dl B.ne.symm
  have ha1 := st _ _ ha na
  have ht1 := st _ _ ht nt
  refine s_appendU (ys := nv (entTold ⟨c, n, q, (Ha10.doing q (vals.getD q.key 0)).2⟩)) (e_fld (e_var rfl) ha1 T.cl_Book T.na_Book_done (lk_Book_done ..))
    (u_cat2 (xs := nv ([c, n] ++ Ha10.askTold q)) (ys := nv [(Ha10.doing q (vals.getD q.key 0)).2]) (u_cat (xs := nv [c, n]) (ys := nv (Ha10.askTold q)) (u_tup (a_cons (e_var rfl) (a_cons (e_var rfl) a_nil)) (by show 2 ≤ sizeLine; decide)) (fun _ _ => e_var rfl) (SqT.of ht1) (by intro z; cases z) (by intro z; cases z) (by show 5 ≤ sizeLine; decide))
      (fun _ _ => u_tup (a_cons (e_var rfl) a_nil) (by show 1 ≤ sizeLine; decide)) (by intro z; cases z) (by intro z; cases z) (by show 6 ≤ sizeLine; decide)) hd (by rw [refs_len]; exact szl hl) fun p H2 np s2 e2 => ?_
  have nacc : ∀ {b : Addr} {o : HO}, H b = some o → H1 b ≠ none := fun {b o} e z => by
    by_cases q : b = acc
    · rw [q, e1] at z; cases z
    · rw [st _ _ e q] at z; cases z
  have np0 : H p = none := by
    cases q : H p with
    | none => rfl
    | some o => exact absurd np (nacc q)
  have npd : p ≠ dn := fun z => by rw [z, hd] at np; cases np
  have nda : dn ≠ a := ne_of B.dl ha (by intro z; cases z)
  refine k _ p np0 ⟨⟨dx, by rw [upd_ne nda.symm]; exact s2 _ _ ha1⟩, by rw [upd_ne B.ne]; exact s2 _ _ e1, by rw [upd_same, refs_snoc], fun y hy => ?_, B.ne⟩ fun b o e h1 h2 => ?_
  · rcases List.mem_append.mp hy with h | h
    · have := B.et y h
      rw [upd_ne (ne_of this B.dl (by intro z; cases z))]
      exact s2 _ _ (st _ _ this (ne_of this B.ac (by intro z; cases z)))
    · have : y = _ := List.mem_singleton.mp h
      subst this
      rw [upd_ne npd]
      exact e2
  · rw [upd_ne h2]
    exact s2 _ _ (st _ _ e h1)
end
end Su

namespace Su
open PySem PySem.Spec PyProof.Rows L2
/-! ### what the house's fields give -/
def ci (c : Nat) : Fin 3 := ⟨(c - 1) % 3, Nat.mod_lt _ (by decide)⟩
theorem ci_val {c : Nat} (h : CliOK c) : (ci c).val + 1 = c := by
  unfold CliOK at h
  unfold ci
  dsimp only
  omega
theorem ci_ne {c : Nat} (h : CliOK c) {i : Fin 3} (n : i ≠ ci c) : i.val + 1 ≠ c := fun z => n (Fin.ext (by have := ci_val h; omega))
section
variable {K : PySem.W.Frag} {mg : Str → Option Value} {d : Ad} {σ : L2.St} {H : Hp} {x : Dec} {s : Ha10.St} {te tb : TE}
theorem hf_time (T : Txt K mg d) (h : HAt d H x s) (hv : Ev0 te σ H (.ref (x.A .house))) : Ev0 (tFld K te "time") σ H (.int (s.now : Int)) := e_fld hv (h.at_ .house) T.cl_House T.na_House_time (lk_House_time ..)
theorem hf_living (T : Txt K mg d) (h : HAt d H x s) (hv : Ev0 te σ H (.ref (x.A .house))) : Ev0 (tFld K te "living") σ H (.ref (x.A .living)) := e_fld hv (h.at_ .house) T.cl_House T.na_House_living (lk_House_living ..)
theorem hf_lives (T : Txt K mg d) (h : HAt d H x s) (hv : Ev0 te σ H (.ref (x.A .house))) : Ev0 (tFld K te "lives") σ H (.ref (x.A .lives)) := e_fld hv (h.at_ .house) T.cl_House T.na_House_lives (lk_House_lives ..)
theorem hf_clients (T : Txt K mg d) (h : HAt d H x s) (hv : Ev0 te σ H (.ref (x.A .house))) : Ev0 (tFld K te "clients") σ H (.ref (x.A .clients)) := e_fld hv (h.at_ .house) T.cl_House T.na_House_clients (lk_House_clients ..)
theorem hf_book (T : Txt K mg d) (h : HAt d H x s) (hv : Ev0 te σ H (.ref (x.A .house))) : Ev0 (tFld K te "book") σ H (.ref (x.A .book)) := e_fld hv (h.at_ .house) T.cl_House T.na_House_book (lk_House_book ..)
theorem hf_disk (T : Txt K mg d) (h : HAt d H x s) (hv : Ev0 te σ H (.ref (x.A .house))) : Ev0 (tFld K te "disk") σ H (.ref (x.A .disk)) := e_fld hv (h.at_ .house) T.cl_House T.na_House_disk (lk_House_disk ..)
theorem hf_waiting (T : Txt K mg d) (h : HAt d H x s) (hv : Ev0 te σ H (.ref (x.A .house))) : Ev0 (tFld K te "waiting") σ H (.ref (x.A .waiting)) := e_fld hv (h.at_ .house) T.cl_House T.na_House_waiting (lk_House_waiting ..)
theorem hf_noted (T : Txt K mg d) (h : HAt d H x s) (hv : Ev0 te σ H (.ref (x.A .house))) : Ev0 (tFld K te "noted") σ H (.ref (x.A .noted)) := e_fld hv (h.at_ .house) T.cl_House T.na_House_noted (lk_House_noted ..)
theorem hf_times (T : Txt K mg d) (h : HAt d H x s) (hv : Ev0 te σ H (.ref (x.A .house))) : Ev0 (tFld K te "times") σ H (.ref (x.A .times)) := e_fld hv (h.at_ .house) T.cl_House T.na_House_times (lk_House_times ..)
theorem hf_letters (T : Txt K mg d) (h : HAt d H x s) (hv : Ev0 te σ H (.ref (x.A .house))) : Ev0 (tFld K te "letters") σ H (.ref (x.A .letters)) := e_fld hv (h.at_ .house) T.cl_House T.na_House_letters (lk_House_letters ..)
theorem h_alive (T : Txt K mg d) (h : HAt d H x s) {p : Nat} (hv : Ev0 te σ H (.ref (x.A .house))) (hp : Ev0 tb σ H (.int (p : Int))) (h1 : 1 ≤ p) (h4 : p ≤ 4) : Ev0 (tDGet (tFld K te "living") tb) σ H (.bl (Ha10.lives s p)) :=
  e_dget (hf_living T h hv) hp (h.at_ .living) (kv4_val (fun p => V.bl (Ha10.lives s p)) h1 h4)
theorem h_life (T : Txt K mg d) (h : HAt d H x s) {p : Nat} (hv : Ev0 te σ H (.ref (x.A .house))) (hp : Ev0 tb σ H (.int (p : Int))) (h1 : 1 ≤ p) (h4 : p ≤ 4) : Ev0 (tDGet (tFld K te "lives") tb) σ H (.int ((Ha10.proc s p).life : Int)) :=
  e_dget (hf_lives T h hv) hp (h.at_ .lives) (kv4_val (fun p => V.int ((Ha10.proc s p).life : Int)) h1 h4)
theorem h_client (T : Txt K mg d) (h : HAt d H x s) {c : Nat} (hv : Ev0 te σ H (.ref (x.A .house))) (hp : Ev0 tb σ H (.int (c : Int))) (hc : CliOK c) : Ev0 (tDGet (tFld K te "clients") tb) σ H (.ref (x.A (.cl (ci c)))) := by
  refine e_dget (hf_clients T h hv) hp (h.at_ .clients) ?_
  have : c = 1 ∨ c = 2 ∨ c = 3 := by
    unfold CliOK at hc
    omega
  rcases this with rfl | rfl | rfl <;> rfl
theorem cont_cl (i : Fin 3) : cont d x s (.cl i) = .ins d.c_Client (x.dx (.cl i)) (fClient (.int ((Ha10.client s (i.val + 1)).num : Int)) (.bl (Ha10.client s (i.val + 1)).waits) (.ref (x.aq i)) (.ref (x.A (.hd i)))) := rfl
theorem cont_hd (i : Fin 3) : cont d x s (.hd i) = .lst (nv (Ha10.client s (i.val + 1)).heard) := rfl
theorem HAt.cli (h : HAt d H x s) {c : Nat} (hc : CliOK c) : H (x.A (.cl (ci c))) = some (.ins d.c_Client (x.dx (.cl (ci c))) (fClient (.int ((Ha10.client s c).num : Int)) (.bl (Ha10.client s c).waits) (.ref (x.aq (ci c))) (.ref (x.A (.hd (ci c)))))) := by
  have := h.at_ (.cl (ci c))
  rw [cont_cl, ci_val hc] at this
  exact this
theorem HAt.hrd (h : HAt d H x s) {c : Nat} (hc : CliOK c) : H (x.A (.hd (ci c))) = some (.lst (nv (Ha10.client s c).heard)) := by
  have := h.at_ (.hd (ci c))
  rw [cont_hd, ci_val hc] at this
  exact this
theorem HAt.bookAt (h : HAt d H x s) : BAt d H (x.A .book) (x.A .bacc) (x.A .bdone) s.book.values x.bd := ⟨⟨_, h.at_ .book⟩, h.at_ .bacc, h.at_ .bdone, h.tk.bdT, fun z => nomatch h.inj _ _ z⟩
theorem HAt.diskAt (h : HAt d H x s) : BAt d H (x.A .disk) (x.A .dacc) (x.A .ddone) s.disk.values x.dd := ⟨⟨_, h.at_ .disk⟩, h.at_ .dacc, h.at_ .ddone, h.tk.ddT, fun z => nomatch h.inj _ _ z⟩
theorem HAt.bookIs (h : HAt d H x s) : (⟨s.book.values, x.bd.map (·.2)⟩ : Ha10.Book) = s.book := by rw [← h.tk.bd]
theorem HAt.diskIs (h : HAt d H x s) : (⟨s.disk.values, x.dd.map (·.2)⟩ : Ha10.Book) = s.disk := by rw [← h.tk.dd]
/-! ### what its stores make of it -/
def setp (s : Ha10.St) (p : Nat) (v : Ha10.Proc) : Ha10.St := { s with procs := s.procs.set (p - 1) v }
theorem setp_len (s : Ha10.St) (p : Nat) (v : Ha10.Proc) : (setp s p v).procs.length = s.procs.length := List.length_set ..
theorem lives_setp {s : Ha10.St} (hl : s.procs.length = 4) {p q : Nat} (v : Ha10.Proc) (hp : 1 ≤ p ∧ p ≤ 4) (hq : 1 ≤ q) : Ha10.lives (setp s p v) q = if q = p then v.lives else Ha10.lives s q := by
  unfold Ha10.lives setp
  rw [proc_set hl v hp hq]
  split <;> rfl
theorem life_setp {s : Ha10.St} (hl : s.procs.length = 4) {p q : Nat} (v : Ha10.Proc) (hp : 1 ≤ p ∧ p ≤ 4) (hq : 1 ≤ q) : (Ha10.proc (setp s p v) q).life = if q = p then v.life else (Ha10.proc s q).life := by
  unfold setp
  rw [proc_set hl v hp hq]
  split <;> rfl
theorem HAt.living (h : HAt d H x s) (hl : s.procs.length = 4) {p : Nat} (hp : 1 ≤ p ∧ p ≤ 4) (b : Bool) : HAt d (upd H (x.A .living) (.dK (putK (kv4 fun p => .bl (Ha10.lives s p)) (.inl (p : Int)) (.bl b)))) x (setp s p ⟨b, (Ha10.proc s p).life⟩) := by
  refine h.set .living rfl ?_ (fun j hj => ?_) ⟨h.tk.air, h.tk.airT, h.tk.waitT, h.tk.bd, h.tk.bdT, h.tk.dd, h.tk.ddT, h.tk.aqT, h.tk.ask⟩
  · rw [kv4_put _ _ hp.1 hp.2]
    refine congrArg HO.dK (kv4_congr fun q h1 h4 => ?_)
    rw [lives_setp hl _ hp h1]
    split <;> rfl
  · cases j <;> first
      | rfl
      | exact absurd rfl hj
      | skip
    refine congrArg HO.dK (kv4_congr fun q h1 h4 => ?_)
    rw [life_setp hl _ hp h1]
    split
    · next e => rw [e]
    · rfl
theorem HAt.lives (h : HAt d H x s) (hl : s.procs.length = 4) {p : Nat} (hp : 1 ≤ p ∧ p ≤ 4) (n : Nat) : HAt d (upd H (x.A .lives) (.dK (putK (kv4 fun p => .int ((Ha10.proc s p).life : Int)) (.inl (p : Int)) (.int (n : Int))))) x (setp s p ⟨Ha10.lives s p, n⟩) := by
  refine h.set .lives rfl ?_ (fun j hj => ?_) ⟨h.tk.air, h.tk.airT, h.tk.waitT, h.tk.bd, h.tk.bdT, h.tk.dd, h.tk.ddT, h.tk.aqT, h.tk.ask⟩
  · rw [kv4_put _ _ hp.1 hp.2]
    refine congrArg HO.dK (kv4_congr fun q h1 h4 => ?_)
    rw [life_setp hl _ hp h1]
    split <;> rfl
  · cases j <;> first
      | rfl
      | exact absurd rfl hj
      | skip
    refine congrArg HO.dK (kv4_congr fun q h1 h4 => ?_)
    rw [lives_setp hl _ hp h1]
    split
    · next e => rw [e]
    · rfl
theorem HAt.sent (h : HAt d H x s) {p : Addr} {l : Ha10.Letter} (e : H p = some (.tup (nv (Ha10.letterTold l)))) : HAt d (upd H (x.A .letters) (.lst (refs x.air ++ [.ref p]))) { x with air := x.air ++ [(p, l)] } (Ha10.send s [l]) := by
  refine h.set .letters rfl ?_ (fun j hj => ?_) ⟨?_, ?_, h.tk.waitT, h.tk.bd, h.tk.bdT, h.tk.dd, h.tk.ddT, h.tk.aqT, h.tk.ask⟩
  · exact congrArg HO.lst (refs_snoc _ _ _)
  · cases j <;> first | rfl | exact absurd rfl hj
  · show s.air ++ [l] = (x.air ++ [(p, l)]).map (·.2)
    rw [h.tk.air, List.map_append]
    rfl
  · intro q hq
    rcases List.mem_append.mp hq with k | k
    · exact h.tk.airT q k
    · rw [List.mem_singleton.mp k]
      exact e
theorem HAt.waited (h : HAt d H x s) {p : Addr} {l : Ha10.Letter} (e : H p = some (.tup (nv (Ha10.letterTold l)))) (ws : List (Nat × Nat × Nat × Nat)) : HAt d (upd H (x.A .waiting) (.lst (refs x.wait ++ [.ref p]))) { x with wait := x.wait ++ [(p, l)] } { s with waiting := ws } := by
  refine h.set .waiting rfl ?_ (fun j hj => ?_) ⟨h.tk.air, h.tk.airT, ?_, h.tk.bd, h.tk.bdT, h.tk.dd, h.tk.ddT, h.tk.aqT, h.tk.ask⟩
  · exact congrArg HO.lst (refs_snoc _ _ _)
  · cases j <;> first | rfl | exact absurd rfl hj
  · intro q hq
    rcases List.mem_append.mp hq with k | k
    · exact h.tk.waitT q k
    · rw [List.mem_singleton.mp k]
      exact e
theorem HAt.lost (h : HAt d H x s) (k : Nat) : HAt d (upd H (x.A .letters) (.lst ((refs x.air).eraseIdx k))) { x with air := x.air.eraseIdx k } { s with air := s.air.eraseIdx k } := by
  refine h.set .letters rfl ?_ (fun j hj => ?_) ⟨?_, fun q hq => h.tk.airT q (List.mem_of_mem_eraseIdx hq), h.tk.waitT, h.tk.bd, h.tk.bdT, h.tk.dd, h.tk.ddT, h.tk.aqT, h.tk.ask⟩
  · exact congrArg HO.lst (refs_erase _ _).symm
  · cases j <;> first | rfl | exact absurd rfl hj
  · show s.air.eraseIdx k = (x.air.eraseIdx k).map (·.2)
    rw [h.tk.air, map_erase]
theorem HAt.noted (h : HAt d H x s) (l : List Nat) : HAt d (upd H (x.A .noted) (.lst (nv l))) x { s with notes := l } :=
  h.set .noted rfl rfl (fun j hj => by cases j <;> first | rfl | exact absurd rfl hj) ⟨h.tk.air, h.tk.airT, h.tk.waitT, h.tk.bd, h.tk.bdT, h.tk.dd, h.tk.ddT, h.tk.aqT, h.tk.ask⟩
theorem HAt.time (h : HAt d H x s) (n : Nat) : HAt d (upd H (x.A .house) (.ins d.c_House (x.dx .house) (hFields x.A n))) x { s with now := n } :=
  h.set .house rfl rfl (fun j hj => by cases j <;> first | rfl | exact absurd rfl hj) ⟨h.tk.air, h.tk.airT, h.tk.waitT, h.tk.bd, h.tk.bdT, h.tk.dd, h.tk.ddT, h.tk.aqT, h.tk.ask⟩
theorem hF_waiting (A : Slot → Addr) (n : Nat) (p : Addr) : putF "waiting" (.ref p) (hFields A n) = hFields (fun j => if j = .waiting then p else A j) n := (pt_House_waiting ..).trans rfl
theorem hF_noted (A : Slot → Addr) (n : Nat) (p : Addr) : putF "noted" (.ref p) (hFields A n) = hFields (fun j => if j = .noted then p else A j) n := (pt_House_noted ..).trans rfl
theorem hF_times (A : Slot → Addr) (n : Nat) (p : Addr) : putF "times" (.ref p) (hFields A n) = hFields (fun j => if j = .times then p else A j) n := (pt_House_times ..).trans rfl
theorem hF_book (A : Slot → Addr) (n : Nat) (p q r : Addr) : putF "book" (.ref p) (hFields A n) = hFields (fun j => if j = .book then p else if j = .bacc then q else if j = .bdone then r else A j) n := (pt_House_book ..).trans rfl
theorem hF_disk (A : Slot → Addr) (n : Nat) (p q r : Addr) : putF "disk" (.ref p) (hFields A n) = hFields (fun j => if j = .disk then p else if j = .dacc then q else if j = .ddone then r else A j) n := (pt_House_disk ..).trans rfl
theorem hF_few (A : Slot → Addr) (n : Nat) : (hFields A n).length < 1000 := few_House ..
def xW (x : Dec) (p : Addr) : Dec := { x with A := fun j => if j = .waiting then p else x.A j, wait := [] }
def xN (x : Dec) (p : Addr) : Dec := { x with A := fun j => if j = .noted then p else x.A j }
def xT (x : Dec) (p : Addr) : Dec := { x with A := fun j => if j = .times then p else x.A j }
def xB (x : Dec) (a acc dn dx : Addr) (ps : List (Addr × Ha10.Entry)) : Dec := { x with A := fun j => if j = .book then a else if j = .bacc then acc else if j = .bdone then dn else x.A j, dx := fun j => if j = .book then dx else x.dx j, bd := ps }
def xD (x : Dec) (a acc dn dx : Addr) (ps : List (Addr × Ha10.Entry)) : Dec := { x with A := fun j => if j = .disk then a else if j = .dacc then acc else if j = .ddone then dn else x.A j, dx := fun j => if j = .disk then dx else x.dx j, dd := ps }
theorem HAt.newW (h : HAt d H x s) {H1 : Hp} {p : Addr} (hp : H p = none) (sm : Same H H1) (e : H1 p = some (.lst [])) (ws : List (Nat × Nat × Nat × Nat)) :
    HAt d (upd H1 (x.A .house) (.ins d.c_House (x.dx .house) (putF "waiting" (.ref p) (hFields x.A s.now)))) (xW x p) { s with waiting := ws } ∧ Fr H x (upd H1 (x.A .house) (.ins d.c_House (x.dx .house) (putF "waiting" (.ref p) (hFields x.A s.now)))) (xW x p) :=
  h.renew .waiting (by decide) hp sm rfl e (congrArg (HO.ins d.c_House (x.dx .house)) (hF_waiting ..).symm) (fun j h1 h2 => by cases j <;> first | rfl | exact absurd rfl h1 | exact absurd rfl h2)
    ⟨h.tk.air, h.tk.airT, fun _ hq => absurd hq List.not_mem_nil, h.tk.bd, h.tk.bdT, h.tk.dd, h.tk.ddT, h.tk.aqT, h.tk.ask⟩
theorem HAt.newN (h : HAt d H x s) {H1 : Hp} {p : Addr} (hp : H p = none) (sm : Same H H1) (e : H1 p = some (.lst [])) :
    HAt d (upd H1 (x.A .house) (.ins d.c_House (x.dx .house) (putF "noted" (.ref p) (hFields x.A s.now)))) (xN x p) { s with notes := [] } ∧ Fr H x (upd H1 (x.A .house) (.ins d.c_House (x.dx .house) (putF "noted" (.ref p) (hFields x.A s.now)))) (xN x p) :=
  h.renew .noted (by decide) hp sm rfl e (congrArg (HO.ins d.c_House (x.dx .house)) (hF_noted ..).symm) (fun j h1 h2 => by cases j <;> first | rfl | exact absurd rfl h1 | exact absurd rfl h2)
    ⟨h.tk.air, h.tk.airT, h.tk.waitT, h.tk.bd, h.tk.bdT, h.tk.dd, h.tk.ddT, h.tk.aqT, h.tk.ask⟩
theorem HAt.newT (h : HAt d H x s) {H1 : Hp} {p : Addr} {ts : List Nat} (hp : H p = none) (sm : Same H H1) (e : H1 p = some (.lst (nv ts))) :
    HAt d (upd H1 (x.A .house) (.ins d.c_House (x.dx .house) (putF "times" (.ref p) (hFields x.A s.now)))) (xT x p) { s with times := ts } ∧ Fr H x (upd H1 (x.A .house) (.ins d.c_House (x.dx .house) (putF "times" (.ref p) (hFields x.A s.now)))) (xT x p) :=
  h.renew .times (by decide) hp sm rfl e (congrArg (HO.ins d.c_House (x.dx .house)) (hF_times ..).symm) (fun j h1 h2 => by cases j <;> first | rfl | exact absurd rfl h1 | exact absurd rfl h2)
    ⟨h.tk.air, h.tk.airT, h.tk.waitT, h.tk.bd, h.tk.bdT, h.tk.dd, h.tk.ddT, h.tk.aqT, h.tk.ask⟩
theorem HAt.oldT (h : HAt d H x s) {p : Addr} {ts : List Nat} (hp : ∀ j, x.A j ≠ p) (e : H p = some (.lst (nv ts))) :
    HAt d (upd H (x.A .house) (.ins d.c_House (x.dx .house) (putF "times" (.ref p) (hFields x.A s.now)))) (xT x p) { s with times := ts } ∧ (∀ b o, H b = some o → (∀ j, x.A j ≠ b) → b ≠ p → upd H (x.A .house) (.ins d.c_House (x.dx .house) (putF "times" (.ref p) (hFields x.A s.now))) b = some o ∧ ∀ j, (xT x p).A j ≠ b) ∧ (xT x p).A .house = x.A .house :=
  h.adopt .times (by decide) hp rfl e (congrArg (HO.ins d.c_House (x.dx .house)) (hF_times ..).symm) (fun j h1 h2 => by cases j <;> first | rfl | exact absurd rfl h1 | exact absurd rfl h2)
    ⟨h.tk.air, h.tk.airT, h.tk.waitT, h.tk.bd, h.tk.bdT, h.tk.dd, h.tk.ddT, h.tk.aqT, h.tk.ask⟩
theorem HAt.newB (h : HAt d H x s) {H1 : Hp} {a acc dn : Addr} {vals : List Nat} {ps : List (Addr × Ha10.Entry)} (ha : H a = none) (hc : H acc = none) (hn : H dn = none) (sm : Same H H1) (B : BAt d H1 a acc dn vals ps) :
    ∃ dx, HAt d (upd H1 (x.A .house) (.ins d.c_House (x.dx .house) (putF "book" (.ref a) (hFields x.A s.now)))) (xB x a acc dn dx ps) { s with book := ⟨vals, ps.map (·.2)⟩ } ∧ Fr H x (upd H1 (x.A .house) (.ins d.c_House (x.dx .house) (putF "book" (.ref a) (hFields x.A s.now)))) (xB x a acc dn dx ps) := by
  obtain ⟨dx, ob⟩ := B.ob
  have tk := h.tk.same sm
  exact ⟨dx, h.renew3 (i1 := .book) (i2 := .bacc) (i3 := .bdone) (by decide) (by decide) (by decide) (by decide) (by decide) (by decide) ha hc hn (ne_of ob B.ac (by intro z; cases z)) (ne_of ob B.dl (by intro z; cases z)) B.ne sm rfl ob B.ac B.dl
    (congrArg (HO.ins d.c_House (x.dx .house)) (hF_book ..).symm) (fun j h1 h2 h3 h4 => by cases j <;> first | rfl | exact absurd rfl h1 | exact absurd rfl h2 | exact absurd rfl h3 | exact absurd rfl h4)
    ⟨tk.air, tk.airT, tk.waitT, rfl, B.et, tk.dd, tk.ddT, tk.aqT, tk.ask⟩⟩
theorem HAt.newD (h : HAt d H x s) {H1 : Hp} {a acc dn : Addr} {vals : List Nat} {ps : List (Addr × Ha10.Entry)} (ha : H a = none) (hc : H acc = none) (hn : H dn = none) (sm : Same H H1) (B : BAt d H1 a acc dn vals ps) :
    ∃ dx, HAt d (upd H1 (x.A .house) (.ins d.c_House (x.dx .house) (putF "disk" (.ref a) (hFields x.A s.now)))) (xD x a acc dn dx ps) { s with disk := ⟨vals, ps.map (·.2)⟩ } ∧ Fr H x (upd H1 (x.A .house) (.ins d.c_House (x.dx .house) (putF "disk" (.ref a) (hFields x.A s.now)))) (xD x a acc dn dx ps) := by
  obtain ⟨dx, ob⟩ := B.ob
  have tk := h.tk.same sm
  exact ⟨dx, h.renew3 (i1 := .disk) (i2 := .dacc) (i3 := .ddone) (by decide) (by decide) (by decide) (by decide) (by decide) (by decide) ha hc hn (ne_of ob B.ac (by intro z; cases z)) (ne_of ob B.dl (by intro z; cases z)) B.ne sm rfl ob B.ac B.dl
    (congrArg (HO.ins d.c_House (x.dx .house)) (hF_disk ..).symm) (fun j h1 h2 h3 h4 => by cases j <;> first | rfl | exact absurd rfl h1 | exact absurd rfl h2 | exact absurd rfl h3 | exact absurd rfl h4)
    ⟨tk.air, tk.airT, tk.waitT, tk.bd, tk.bdT, rfl, B.et, tk.aqT, tk.ask⟩⟩
/-- a request is done in the house's book -/
theorem HAt.put (h : HAt d H x s) {H1 : Hp} {vals : List Nat} {ps : List (Addr × Ha10.Entry)} (B : BAt d H1 (x.A .book) (x.A .bacc) (x.A .bdone) vals ps) (st : ∀ b o, H b = some o → b ≠ x.A .bacc → b ≠ x.A .bdone → H1 b = some o) :
    HAt d H1 { x with bd := ps } { s with book := ⟨vals, ps.map (·.2)⟩ } ∧ Fr H x H1 { x with bd := ps } := by
  have tup : ∀ b xs, H b = some (.tup xs) → H1 b = some (.tup xs) := fun b xs e => st b _ e (fun z => h.notup e .bacc z.symm) (fun z => h.notup e .bdone z.symm)
  have tk := h.tk.tups tup
  refine ⟨⟨h.inj, fun j => ?_, ⟨tk.air, tk.airT, tk.waitT, rfl, B.et, tk.dd, tk.ddT, tk.aqT, tk.ask⟩⟩, ⟨fun b o e k => ⟨st b o e (fun z => k .bacc z.symm) (fun z => k .bdone z.symm), k⟩, rfl⟩⟩
  by_cases j1 : j = .bacc
  · subst j1; exact B.ac
  by_cases j2 : j = .bdone
  · subst j2; exact B.dl
  have : cont d { x with bd := ps } { s with book := ⟨vals, ps.map (·.2)⟩ } j = cont d x s j := by cases j <;> first | rfl | exact absurd rfl j1 | exact absurd rfl j2
  show H1 (x.A j) = _
  rw [this]
  exact st _ _ (h.at_ j) (fun z => j1 (h.inj _ _ z)) (fun z => j2 (h.inj _ _ z))
def xQ (x : Dec) (i : Fin 3) (p : Addr) (q : Ha10.Ask) : Dec := { x with aq := fun j => if j = i then p else x.aq j, ak := fun j => if j = i then q else x.ak j }
/-- a client's own numbers are written -/
theorem HAt.setCl (h : HAt d H x s) (hl : s.clients.length = 3) {c : Nat} (hc : CliOK c) {n : Nat} {b : Bool} {q r : Ha10.Ask} {p : Addr} (hp : H p = some (.tup (nv (Ha10.askTold r)))) (hq : b = true → q = r) :
    HAt d (upd H (x.A (.cl (ci c))) (.ins d.c_Client (x.dx (.cl (ci c))) (fClient (.int (n : Int)) (.bl b) (.ref p) (.ref (x.A (.hd (ci c))))))) (xQ x (ci c) p r) (Ha10.setClient s c ⟨n, q, b, (Ha10.client s c).heard⟩) := by
  have cs : ∀ i : Fin 3, Ha10.client (Ha10.setClient s c ⟨n, q, b, (Ha10.client s c).heard⟩) (i.val + 1) = if i = ci c then ⟨n, q, b, (Ha10.client s c).heard⟩ else Ha10.client s (i.val + 1) := fun i => by
    rw [client_set hl _ hc (by omega)]
    by_cases e : i = ci c
    · rw [if_pos e, if_pos (by rw [e]; exact ci_val hc)]
    · rw [if_neg e, if_neg (ci_ne hc e)]
  refine h.set (.cl (ci c)) rfl ?_ (fun j hj => ?_) ⟨h.tk.air, h.tk.airT, h.tk.waitT, h.tk.bd, h.tk.bdT, h.tk.dd, h.tk.ddT, fun i => ?_, fun i => ?_⟩
  · rw [cont_cl, cs, if_pos rfl]
    unfold xQ
    simp only [if_true]
  · cases j with
    | cl i =>
      have ni : i ≠ ci c := fun z => hj (by rw [z])
      rw [cont_cl, cont_cl, cs, if_neg ni]
      unfold xQ
      simp only [if_neg ni]
    | hd i =>
      rw [cont_hd, cont_hd, cs]
      by_cases e : i = ci c
      · rw [if_pos e, e, ci_val hc]
      · rw [if_neg e]
    | _ => rfl
  · show H (if i = ci c then p else x.aq i) = some (.tup (nv (Ha10.askTold (if i = ci c then r else x.ak i))))
    by_cases e : i = ci c
    · rw [if_pos e, if_pos e]
      exact hp
    · rw [if_neg e, if_neg e]
      exact h.tk.aqT i
  · rw [cs]
    show _ → _ = (if i = ci c then r else x.ak i)
    by_cases e : i = ci c
    · rw [if_pos e, if_pos e]
      exact hq
    · rw [if_neg e, if_neg e]
      exact h.tk.ask i
theorem HAt.setHd (h : HAt d H x s) (hl : s.clients.length = 3) {c : Nat} (hc : CliOK c) (w : List Nat) :
    HAt d (upd H (x.A (.hd (ci c))) (.lst (nv w))) x (Ha10.setClient s c { Ha10.client s c with heard := w }) := by
  have cs : ∀ i : Fin 3, Ha10.client (Ha10.setClient s c { Ha10.client s c with heard := w }) (i.val + 1) = if i = ci c then { Ha10.client s c with heard := w } else Ha10.client s (i.val + 1) := fun i => by
    rw [client_set hl _ hc (by omega)]
    by_cases e : i = ci c
    · rw [if_pos e, if_pos (by rw [e]; exact ci_val hc)]
    · rw [if_neg e, if_neg (ci_ne hc e)]
  refine h.set (.hd (ci c)) rfl ?_ (fun j hj => ?_) ⟨h.tk.air, h.tk.airT, h.tk.waitT, h.tk.bd, h.tk.bdT, h.tk.dd, h.tk.ddT, h.tk.aqT, fun i => ?_⟩
  · rw [cont_hd, cs, if_pos rfl]
  · cases j with
    | hd i =>
      have ni : i ≠ ci c := fun z => hj (by rw [z])
      rw [cont_hd, cont_hd, cs, if_neg ni]
    | cl i =>
      rw [cont_cl, cont_cl, cs]
      by_cases e : i = ci c
      · rw [if_pos e, e, ci_val hc]
      · rw [if_neg e]
    | _ => rfl
  · rw [cs]
    by_cases e : i = ci c
    · rw [if_pos e]
      have := h.tk.ask i
      rw [e, ci_val hc] at this
      rw [e]
      exact this
    · rw [if_neg e]
      exact h.tk.ask i
end
end Su

namespace Su
open PySem PySem.Spec PyProof.Rows L2
/-! ### values while the heap grows -/
def Ts0 (t : TT) (σ : L2.St) (H : Hp) (b : Bool) : Prop := ∀ Q : Bool → Hp → Prop, (∀ H', Same H H' → Q b H') → t σ H Q
section
variable {K : PySem.W.Frag} {σ : L2.St} {H : Hp} {ta tb te : TE} {t u : TT} {v : V} {D : Ends} {ts us : TS}
theorem e_leS {i j : Int} (ha : Ev0 ta σ H (.int i)) (hb : Es0 tb σ H (.int j)) : Es0 (tOp (rI0 fun i j => .bl (decide (i ≤ j))) ta tb) σ H (.bl (decide (i ≤ j))) := fun _ q => ha _ (hb _ fun H' sm => ⟨i, j, rfl, rfl, q H' sm⟩)
theorem ts_T {b : Bool} (h : Es0 te σ H (.bl b)) : Ts0 (tTest te) σ H b := fun _ q => h _ fun H' sm => ⟨b, rfl, q H' sm⟩
theorem s_ifS {b : Bool} (h : Ts0 t σ H b) (h1 : ∀ H', Same H H' → b = true → ts D σ H') (h2 : ∀ H', Same H H' → b = false → us D σ H') : tIfS t ts us D σ H := h _ fun H' sm => by
  cases b with
  | true => exact iteT (h1 H' sm rfl)
  | false => exact iteF (h2 H' sm rfl)
theorem s_setS {i : Nat} (h : Es0 te σ H v) (k : ∀ H', Same H H' → D.nx (σ.set i (some v)) H') : tAsg te (gName i) D σ H := h _ k
end
structure Hs (d : Ad) (H : Hp) (x : Dec) (s : Ha10.St) (n : Nat) : Prop where
  at_ : HAt d H x s
  wl : WL x s
  inv : Inv n s
  le : n ≤ 100000
theorem Hs.same {d : Ad} {H H' : Hp} {x : Dec} {s : Ha10.St} {n : Nat} (sm : Same H H') (h : Hs d H x s n) : Hs d H' x s n := ⟨h.at_.same sm, h.wl, h.inv, h.le⟩
section
variable {d : Ad} {H : Hp} {x : Dec} {s : Ha10.St}
theorem HAt.airLen (h : HAt d H x s) : (refs x.air).length = s.air.length := by rw [refs_len, h.tk.air, List.length_map]
theorem HAt.bdLen (h : HAt d H x s) : x.bd.length = s.book.done.length := by rw [h.tk.bd, List.length_map]
theorem HAt.ddLen (h : HAt d H x s) : x.dd.length = s.disk.done.length := by rw [h.tk.dd, List.length_map]
theorem WL.len (h : WL x s) : x.wait.length ≤ s.waiting.length := by
  have := congrArg List.length h
  rw [List.length_map] at this
  rw [← this]
  exact wl_le _
end
/-! ### the promises -/
def sp_House_is_full (K : PySem.W.Frag) (d : Ad) : Sp := fun vs H Q _ => ∃ (x : Dec) (s : Ha10.St), vs = [.ref (x.A .house)] ∧ HAt d H x s ∧ Q (.bl (decide (60 ≤ s.air.length))) H
def sp_House_has_letter (K : PySem.W.Frag) (d : Ad) : Sp := fun vs H Q _ => ∃ (x : Dec) (s : Ha10.St) (k : Nat), vs = [.ref (x.A .house), .int (k : Int)] ∧ HAt d H x s ∧ Q (.bl (decide (1 ≤ k) && decide (k ≤ s.air.length))) H
def sp_House_send_request (K : PySem.W.Frag) (d : Ad) : Sp := fun vs H Q _ => ∃ (x : Dec) (s : Ha10.St) (c sv : Nat), vs = [.ref (x.A .house), .int (c : Int), .int (sv : Int)] ∧ HAt d H x s ∧ CliOK c ∧ (Ha10.client s c).waits = true ∧ s.air.length ≤ 1000000 ∧
  ∀ (H' : Hp) (x' : Dec), HAt d H' x' (Ha10.send s [.req c sv (Ha10.client s c).num (Ha10.client s c).ask]) → x'.wait = x.wait → x'.A = x.A → Fr H x H' x' → Q .non H'
def sp_House_request_arrives (K : PySem.W.Frag) (d : Ad) : Sp := fun vs H Q _ => ∃ (x : Dec) (s : Ha10.St) (t : Addr) (c sv k : Nat) (a : Ha10.Ask), vs = [.ref (x.A .house), .ref t] ∧ HAt d H x s ∧ s.air.length ≤ 1000000 ∧ H t = some (.tup (nv (Ha10.letterTold (.req c sv k a)))) ∧ SrvOK sv ∧
  ∀ (H' : Hp) (x' : Dec), HAt d H' x' (Ha10.arrives s (.req c sv k a)) → x'.wait = x.wait → Fr H x H' x' → Q .non H'
def sp_House_reply_arrives (K : PySem.W.Frag) (d : Ad) : Sp := fun vs H Q _ => ∃ (x : Dec) (s : Ha10.St) (t : Addr) (sv sl c k v : Nat), vs = [.ref (x.A .house), .ref t] ∧ HAt d H x s ∧ s.air.length ≤ 1000000 ∧ H t = some (.tup (nv (Ha10.letterTold (.back sv sl c k v)))) ∧ SrvOK sv ∧
  ∀ (H' : Hp) (x' : Dec), HAt d H' x' (Ha10.arrives s (.back sv sl c k v)) → x'.wait = x.wait → Fr H x H' x' → Q .non H'
def sp_House_answer_arrives (K : PySem.W.Frag) (d : Ad) : Sp := fun vs H Q _ => ∃ (x : Dec) (s : Ha10.St) (t : Addr) (c k v : Nat), vs = [.ref (x.A .house), .ref t] ∧ HAt d H x s ∧ s.clients.length = 3 ∧ (Ha10.client s c).heard.length ≤ 1000000 ∧ H t = some (.tup (nv (Ha10.letterTold (.told c k v)))) ∧ CliOK c ∧
  ∀ (H' : Hp) (x' : Dec), HAt d H' x' (Ha10.arrives s (.told c k v)) → x'.wait = x.wait → Fr H x H' x' → Q .non H'
def sp_House_reply_to (K : PySem.W.Frag) (d : Ad) : Sp := fun vs H Q _ => ∃ (x : Dec) (s : Ha10.St) (t : Addr) (sv sl life c k : Nat) (a : Ha10.Ask) (e : Ha10.Entry), vs = [.ref (x.A .house), .ref t] ∧ HAt d H x s ∧ H t = some (.tup (nv (Ha10.letterTold (.do_ sv sl life c k a)))) ∧ Ha10.entryOf s.book c k = some e ∧ s.book.done.length ≤ 1000000 ∧
  ∀ (H' : Hp) (p : Addr), H p = none → Same H H' → H' p = some (.tup (nv (Ha10.letterTold (.back sv sl c k e.answer)))) → Q (.ref p) H'
def sp_House_store_is_asked (K : PySem.W.Frag) (d : Ad) : Sp := fun vs H Q _ => ∃ (x : Dec) (s : Ha10.St) (n : Nat) (t : Addr) (sv sl life c k : Nat) (a : Ha10.Ask), vs = [.ref (x.A .house), .ref t] ∧ Hs d H x s n ∧ H t = some (.tup (nv (Ha10.letterTold (.do_ sv sl life c k a)))) ∧ 1 ≤ k ∧ AskOK a ∧ Ha10.lives s 2 = true ∧
  ∀ (H' : Hp) (x' : Dec), HAt d H' x' (Ha10.asked s sv sl c k a) → WL x' (Ha10.asked s sv sl c k a) → Fr H x H' x' → Q .non H'
def sp_House_question_arrives (K : PySem.W.Frag) (d : Ad) : Sp := fun vs H Q _ => ∃ (x : Dec) (s : Ha10.St) (n : Nat) (t : Addr) (sv sl life c k : Nat) (a : Ha10.Ask), vs = [.ref (x.A .house), .ref t] ∧ Hs d H x s n ∧ H t = some (.tup (nv (Ha10.letterTold (.do_ sv sl life c k a)))) ∧ 1 ≤ k ∧ AskOK a ∧
  ∀ (H' : Hp) (x' : Dec), HAt d H' x' (Ha10.arrives s (.do_ sv sl life c k a)) → WL x' (Ha10.arrives s (.do_ sv sl life c k a)) → Fr H x H' x' → Q .non H'
def sp_House_letter_arrives (K : PySem.W.Frag) (d : Ad) : Sp := fun vs H Q _ => ∃ (x : Dec) (s : Ha10.St) (n : Nat) (t : Addr) (l : Ha10.Letter), vs = [.ref (x.A .house), .ref t] ∧ Hs d H x s n ∧ H t = some (.tup (nv (Ha10.letterTold l))) ∧ LetOK l ∧
  ∀ (H' : Hp) (x' : Dec), HAt d H' x' (Ha10.arrives s l) → WL x' (Ha10.arrives s l) → Fr H x H' x' → Q .non H'
def sp_House_store_saves (K : PySem.W.Frag) (d : Ad) : Sp := fun vs H Q _ => ∃ (x : Dec) (s : Ha10.St) (n : Nat), vs = [.ref (x.A .house)] ∧ Hs d H x s n ∧
  ∀ (H' : Hp) (x' : Dec), HAt d H' x' (Ha10.saves s) → WL x' (Ha10.saves s) → Fr H x H' x' → Q (.int ((waitLetters s.book s.waiting).length : Int)) H'
def sp_House_forget (K : PySem.W.Frag) (d : Ad) : Sp := fun vs H Q _ => ∃ (x : Dec) (s : Ha10.St), vs = [.ref (x.A .house)] ∧ HAt d H x s ∧
  ∀ (H' : Hp) (x' : Dec), HAt d H' x' { s with waiting := [], notes := [], times := [] } → x'.wait = [] → Fr H x H' x' → Q .non H'
def sp_House_process_lives (K : PySem.W.Frag) (d : Ad) : Sp := fun vs H Q _ => ∃ (x : Dec) (s : Ha10.St) (p : Nat), vs = [.ref (x.A .house), .int (p : Int)] ∧ HAt d H x s ∧ s.procs.length = 4 ∧ 1 ≤ p ∧ p ≤ 4 ∧
  ∀ (H' : Hp) (x' : Dec), HAt d H' x' (Ha10.started s p) → x'.wait = x.wait → Fr H x H' x' → Q .non H'
def sp_House_go_down (K : PySem.W.Frag) (d : Ad) : Sp := fun vs H Q _ => ∃ (x : Dec) (s : Ha10.St), vs = [.ref (x.A .house)] ∧ HAt d H x s ∧ s.procs.length = 4 ∧
  ∀ (H' : Hp) (x' : Dec), HAt d H' x' (Ha10.down s) → WL x' (Ha10.down s) → Fr H x H' x' → Q .non H'
def sp_House_come_up (K : PySem.W.Frag) (d : Ad) : Sp := fun vs H Q _ => ∃ (x : Dec) (s : Ha10.St), vs = [.ref (x.A .house)] ∧ HAt d H x s ∧ s.procs.length = 4 ∧
  ∀ (H' : Hp) (x' : Dec), HAt d H' x' (Ha10.begins s) → WL x' (Ha10.begins s) → Fr H x H' x' → Q .non H'
def sp_House_process_dies (K : PySem.W.Frag) (d : Ad) : Sp := fun vs H Q _ => ∃ (x : Dec) (s : Ha10.St) (n p : Nat), vs = [.ref (x.A .house), .int (p : Int)] ∧ Hs d H x s n ∧ 1 ≤ p ∧ p ≤ 4 ∧
  ∀ (H' : Hp) (x' : Dec), HAt d H' x' (Ha10.dies s p) → WL x' (Ha10.dies s p) → Fr H x H' x' → Q .non H'
def sp_House_keeper_minds (K : PySem.W.Frag) (d : Ad) : Sp := fun vs H Q _ => ∃ (x : Dec) (s : Ha10.St) (n : Nat), vs = [.ref (x.A .house)] ∧ Hs d H x s n ∧ s.notes ≠ [] ∧
  ∀ (H' : Hp) (x' : Dec), HAt d H' x' (Ha10.minds s) → WL x' (Ha10.minds s) → Fr H x H' x' → Q .non H'
section
variable {P : Program} {w : World} {K : PySem.W.Frag} {mg : Str → Option Value} {base : Heap} {d : Ad}
theorem ok_House_is_full (T : Txt K mg d) : FnOk P w K mg base CX0 1 d.f_House_is_full d.fd_House_is_full ["self"] (sp_House_is_full K d) := by
  refine T.F_House_is_full.ok sc_House_is_full (fun vs H Q E h => ?_) (fun cdv A outer sh H vs Q E hr h => ?_)
  · obtain ⟨x, s, rfl, h, k⟩ := h
    rfl
  obtain ⟨x, s, rfl, h, k⟩ := h
  refine ⟨_, (pss_one (ps_ret (pe_cmpR op_ge (pe_callB call_len_seq (by rfl) T.z_len PySem.boot_len (pa_cons (pe_fld (pv 0) rfl) pa_nil)) (pe_gI (by rfl) T.g_MOST_LETTERS) (nomark _)))), ?_⟩
  refine s_ret (v := .bl (decide (60 ≤ s.air.length))) (e_is (e_ge (e_len (hf_letters T h (e_var rfl)) (SqL.of (h.at_ .letters))) e_c) ?_) k
  rw [h.airLen]
  exact congrArg V.bl (decide_eq_decide.mpr (by omega))
theorem ok_House_has_letter (T : Txt K mg d) : FnOk P w K mg base CX0 1 d.f_House_has_letter d.fd_House_has_letter ["self", "k"] (sp_House_has_letter K d) := by
  refine T.F_House_has_letter.ok sc_House_has_letter (fun vs H Q E h => ?_) (fun cdv A outer sh H vs Q E hr h => ?_)
  · obtain ⟨x, s, n, rfl, h, k⟩ := h
    rfl
  obtain ⟨x, s, n, rfl, h, k⟩ := h
  refine ⟨_, (pss_one (ps_ret (pe_and (pe_cmpR op_ge (pv 1) pe_int (nomark _)) (pe_one (pe_cmpR op_le (pv 1) (pe_callB call_len_seq (by rfl) T.z_len PySem.boot_len (pa_cons (pe_fld (pv 0) rfl) pa_nil)) (nomark _)))))), ?_⟩
  refine s_ret (v := .bl (decide (1 ≤ n) && decide (n ≤ s.air.length))) (e_is (e_andV (e_ge (e_var rfl) e_c) fun _ => e_le (e_var rfl) (e_len (hf_letters T h (e_var rfl)) (SqL.of (h.at_ .letters)))) ?_) k
  rw [h.airLen]
  exact congrArg V.bl (congr (congrArg and (decide_eq_decide.mpr (by omega))) (decide_eq_decide.mpr (by omega)))
theorem ok_House_send_request (T : Txt K mg d) : FnOk P w K mg base CX0 1 d.f_House_send_request d.fd_House_send_request ["self", "number_of_client", "server"] (sp_House_send_request K d) := by
  refine T.F_House_send_request.ok sc_House_send_request (fun vs H Q E h => ?_) (fun cdv A outer sh H vs Q E hr h => ?_)
  · obtain ⟨x, s, c, sv, rfl, h, hc, hw, hl, k⟩ := h
    rfl
  obtain ⟨x, s, c, sv, rfl, h, hc, hw, hl, k⟩ := h
  refine ⟨_, (pss_cons (ps_set (i := 3) sc_House_send_request.nd rfl (Or.inl rfl) (pe_dget (hu_of hr) (pe_fld (pv 0) rfl) (pv 1) (fun _ _ => rfl)))
      (pss_one (ps_expr (pe_bm PySem.F.plainAttrs_list PySem.F.slot_list_append PySem.F.type_list_append mt_append (pe_fld (pv 0) rfl) (pa_cons (pe_op op_catT (pe_tup (pa_cons (pe_gI (by rfl) T.g_REQUEST) (pa_cons (pv 1) (pa_cons (pv 2) (pa_cons (pe_fld (pv 3) rfl) pa_nil))))) (pe_fld (pv 3) rfl)) pa_nil))))), ?_⟩
  refine s_seq (s_set (h_client T h (e_var rfl) (e_var rfl) hc) ?_)
  have ea : (Ha10.client s c).ask = x.ak (ci c) := by
    have := h.tk.ask (ci c)
    rw [ci_val hc] at this
    exact this hw
  refine s_appendU (ys := nv (Ha10.letterTold (.req c sv (Ha10.client s c).num (Ha10.client s c).ask))) (hf_letters T h (e_var rfl))
    (u_cat (xs := nv [0, c, sv, (Ha10.client s c).num]) (ys := nv (Ha10.askTold (Ha10.client s c).ask)) (u_tup (a_cons e_c (a_cons (e_var rfl) (a_cons (e_var rfl) (a_cons (e_fld (e_var rfl) (h.cli hc) T.cl_Client T.na_Client_made (lk_Client_made ..)) a_nil)))) (by show 4 ≤ sizeLine; decide))
      (fun H' sm => e_fld (e_var rfl) ((h.same sm).cli hc) T.cl_Client T.na_Client_asked (lk_Client_asked ..)) (SqT.of (by rw [ea]; exact h.tk.aqT (ci c))) (by intro z; cases z) (by intro z; cases z) (by show 7 ≤ sizeLine; decide))
    (h.at_ .letters) (by rw [h.airLen]; exact szl hl) fun p H1 hp sm e => ?_
  exact k _ _ ((h.same sm).sent e) rfl rfl ((Fr.same x sm).trans (Fr.set (h.same sm) .letters rfl))
theorem ok_House_request_arrives (T : Txt K mg d) : FnOk P w K mg base CX0 1 d.f_House_request_arrives d.fd_House_request_arrives ["self", "letter"] (sp_House_request_arrives K d) := by
  refine T.F_House_request_arrives.ok sc_House_request_arrives (fun vs H Q E h => ?_) (fun cdv A outer sh H vs Q E hr h => ?_)
  · obtain ⟨x, s, t, c, sv, n, a, rfl, h, hl, ht, hs, k⟩ := h
    rfl
  obtain ⟨x, s, t, c, sv, n, a, rfl, h, hl, ht, hs, k⟩ := h
  refine ⟨_, (pss_cons (ps_set (i := 2) sc_House_request_arrives.nd rfl (Or.inl rfl) (pe_ix ix_tup (pv 1) pe_int (fun _ _ => rfl)))
      (pss_cons (ps_set (i := 3) sc_House_request_arrives.nd rfl (Or.inl rfl) (pe_ix ix_tup (pv 1) pe_int (fun _ _ => rfl)))
      (pss_cons (ps_set (i := 4) sc_House_request_arrives.nd rfl (Or.inl rfl) (pe_ix ix_tup (pv 1) pe_int (fun _ _ => rfl)))
      (pss_cons (ps_set (i := 5) sc_House_request_arrives.nd rfl (Or.inl rfl) (pe_slice sl_tup (pv 1) (po_some pe_int) po_none))
      (pss_one (ps_if (PW.pt (pw_and (pt_val (pe_dget (hu_of hr) (pe_fld (pv 0) rfl) (pv 3) (fun _ _ => rfl))) (pw_and1 (pt_val (pe_dget (hu_of hr) (pe_fld (pv 0) rfl) (pe_gI (by rfl) T.g_STORE) (fun _ _ => rfl)))))) (pss_cons (ps_set (i := 6) sc_House_request_arrives.nd rfl (Or.inl rfl) (pe_tup (pa_cons (pe_dget (hu_of hr) (pe_fld (pv 0) rfl) (pv 3) (fun _ _ => rfl)) (pa_cons (pe_dget (hu_of hr) (pe_fld (pv 0) rfl) (pe_gI (by rfl) T.g_STORE) (fun _ _ => rfl)) pa_nil))))
      (pss_one (ps_expr (pe_bm PySem.F.plainAttrs_list PySem.F.slot_list_append PySem.F.type_list_append mt_append (pe_fld (pv 0) rfl) (pa_cons (pe_op op_catT (pe_op op_catT (pe_op op_catT (pe_tup (pa_cons (pe_gI (by rfl) T.g_TO_STORE) (pa_cons (pv 3) pa_nil))) (pv 6)) (pe_tup (pa_cons (pv 2) (pa_cons (pv 4) pa_nil)))) (pv 5)) pa_nil))))) pss_nil)))))), ?_⟩
  have sv4 : 1 ≤ sv ∧ sv ≤ 4 := by
    unfold SrvOK at hs
    omega
  refine s_seq (s_set (v := .int (c : Int)) (e_ixT (e_var rfl) e_c (SqT.of ht) (at_of (j := 1) rfl rfl)) ?_)
  refine s_seq (s_set (v := .int (sv : Int)) (e_ixT (e_var rfl) e_c (SqT.of ht) (at_of (j := 2) rfl rfl)) ?_)
  refine s_seq (s_set (v := .int (n : Int)) (e_ixT (e_var rfl) e_c (SqT.of ht) (at_of (j := 3) rfl rfl)) ?_)
  dsimp only
  refine s_seq (s_setU (xs := nv (Ha10.askTold a)) (u_slice (e_var rfl) e_c (SqT.of ht) (by show ¬ HT.sIx 7 0 (some 4) = 0; decide)) fun p H1 hp sm e => ?_)
  have h1 := h.same sm
  refine s_if (tv_and (tv_B (h_alive T h1 (e_var rfl) (e_var rfl) sv4.1 sv4.2)) fun _ => tv_B (h_alive (p := 2) T h1 (e_var rfl) e_c (by decide) (by decide))) (fun b => ?_) (fun b => ?_)
  · have hb : Ha10.lives s sv = true ∧ Ha10.lives s 2 = true := by simpa using b
    refine s_seq (s_setU (xs := nv [(Ha10.proc s sv).life, (Ha10.proc s 2).life]) (u_tup (a_cons (h_life T h1 (e_var rfl) (e_var rfl) sv4.1 sv4.2) (a_cons (h_life (p := 2) T h1 (e_var rfl) e_c (by decide) (by decide)) a_nil)) (by show 2 ≤ sizeLine; decide)) fun p2 H2 hp2 sm2 e2 => ?_)
    have h2 := h1.same sm2
    refine s_appendU (ys := nv (Ha10.letterTold (.do_ sv (Ha10.proc s sv).life (Ha10.proc s 2).life c n a))) (hf_letters T h2 (e_var rfl))
      (u_cat (xs := nv [1, sv, (Ha10.proc s sv).life, (Ha10.proc s 2).life, c, n]) (ys := nv (Ha10.askTold a))
        (u_cat2 (xs := nv [1, sv, (Ha10.proc s sv).life, (Ha10.proc s 2).life]) (ys := nv [c, n])
          (u_cat (xs := nv [1, sv]) (ys := nv [(Ha10.proc s sv).life, (Ha10.proc s 2).life]) (u_tup (a_cons e_c (a_cons (e_var rfl) a_nil)) (by show 2 ≤ sizeLine; decide)) (fun _ _ => e_var rfl) (SqT.of e2) (by intro z; cases z) (by intro z; cases z) (by show 4 ≤ sizeLine; decide))
          (fun _ _ => u_tup (a_cons (e_var rfl) (a_cons (e_var rfl) a_nil)) (by show 2 ≤ sizeLine; decide)) (by intro z; cases z) (by intro z; cases z) (by show 6 ≤ sizeLine; decide))
        (fun _ _ => e_var rfl) (SqT.of (sm2 _ _ e)) (by intro z; cases z) (by intro z; cases z) (by show 9 ≤ sizeLine; decide))
      (h2.at_ .letters) (by rw [h2.airLen]; exact szl hl) fun p3 H3 hp3 sm3 e3 => ?_
    have st : Ha10.arrives s (.req c sv n a) = Ha10.send s [.do_ sv (Ha10.proc s sv).life (Ha10.proc s 2).life c n a] := if_pos hb
    rw [st] at k
    exact k _ _ ((h2.same sm3).sent e3) rfl ((Fr.same x (sm.trans (sm2.trans sm3))).trans (Fr.set (h2.same sm3) .letters rfl))
  · have hb : ¬ (Ha10.lives s sv = true ∧ Ha10.lives s 2 = true) := by simpa using b
    have st : Ha10.arrives s (.req c sv n a) = s := if_neg hb
    rw [st] at k
    exact k _ _ h1 rfl (Fr.same x sm)
theorem ok_House_reply_arrives (T : Txt K mg d) : FnOk P w K mg base CX0 1 d.f_House_reply_arrives d.fd_House_reply_arrives ["self", "letter"] (sp_House_reply_arrives K d) := by
  refine T.F_House_reply_arrives.ok sc_House_reply_arrives (fun vs H Q E h => ?_) (fun cdv A outer sh H vs Q E hr h => ?_)
  · obtain ⟨x, s, t, sv, sl, c, n, v, rfl, h, hl, ht, hs, k⟩ := h
    rfl
  obtain ⟨x, s, t, sv, sl, c, n, v, rfl, h, hl, ht, hs, k⟩ := h
  refine ⟨_, (pss_cons (ps_set (i := 2) sc_House_reply_arrives.nd rfl (Or.inl rfl) (pe_ix ix_tup (pv 1) pe_int (fun _ _ => rfl)))
      (pss_cons (ps_set (i := 3) sc_House_reply_arrives.nd rfl (Or.inl rfl) (pe_ix ix_tup (pv 1) pe_int (fun _ _ => rfl)))
      (pss_one (ps_if (PW.pt (pw_and (pt_val (pe_dget (hu_of hr) (pe_fld (pv 0) rfl) (pv 2) (fun _ _ => rfl))) (pw_and1 (pt_cmpR op_eq (pe_dget (hu_of hr) (pe_fld (pv 0) rfl) (pv 2) (fun _ _ => rfl)) (pv 3) (nomark _))))) (pss_one (ps_expr (pe_bm PySem.F.plainAttrs_list PySem.F.slot_list_append PySem.F.type_list_append mt_append (pe_fld (pv 0) rfl) (pa_cons (pe_op op_catT (pe_tup (pa_cons (pe_gI (by rfl) T.g_TO_CLIENT) pa_nil)) (pe_slice sl_tup (pv 1) (po_some pe_int) po_none)) pa_nil)))) pss_nil)))), ?_⟩
  have sv4 : 1 ≤ sv ∧ sv ≤ 4 := by
    unfold SrvOK at hs
    omega
  refine s_seq (s_set (v := .int (sv : Int)) (e_ixT (e_var rfl) e_c (SqT.of ht) (at_of (j := 1) rfl rfl)) ?_)
  refine s_seq (s_set (v := .int (sl : Int)) (e_ixT (e_var rfl) e_c (SqT.of ht) (at_of (j := 2) rfl rfl)) ?_)
  refine s_if (tv_and (tv_B (h_alive T h (e_var rfl) (e_var rfl) sv4.1 sv4.2)) fun _ => tv_T (e_eqI (h_life T h (e_var rfl) (e_var rfl) sv4.1 sv4.2) (e_var rfl))) (fun b => ?_) (fun b => ?_)
  · have hb : Ha10.lives s sv = true ∧ (Ha10.proc s sv).life = sl := by
      rw [Bool.and_eq_true, decide_eq_true_eq] at b
      exact ⟨b.1, by omega⟩
    refine s_appendU (ys := nv (Ha10.letterTold (.told c n v))) (hf_letters T h (e_var rfl))
      (u_cat2 (xs := nv [3]) (ys := nv [c, n, v]) (u_tup (a_cons e_c a_nil) (by show 1 ≤ sizeLine; decide)) (fun _ sm => u_slice (e_var rfl) e_c (SqT.of (sm _ _ ht)) (by show ¬ HT.sIx 6 0 (some 3) = 0; decide)) (by intro z; cases z) (by intro z; cases z) (by show 4 ≤ sizeLine; decide))
      (h.at_ .letters) (by rw [h.airLen]; exact szl hl) fun p3 H3 hp3 sm3 e3 => ?_
    have st : Ha10.arrives s (.back sv sl c n v) = Ha10.send s [.told c n v] := if_pos hb
    rw [st] at k
    exact k _ _ ((h.same sm3).sent e3) rfl ((Fr.same x sm3).trans (Fr.set (h.same sm3) .letters rfl))
  · have hb : ¬ (Ha10.lives s sv = true ∧ (Ha10.proc s sv).life = sl) := fun z => by
      rw [Bool.and_eq_false_iff, decide_eq_false_iff_not] at b
      rcases b with b | b
      · rw [z.1] at b; cases b
      · exact b (by omega)
    have st : Ha10.arrives s (.back sv sl c n v) = s := if_neg hb
    rw [st] at k
    exact k _ _ h rfl (Fr.refl H x)
theorem ok_House_answer_arrives (T : Txt K mg d) : FnOk P w K mg base CX0 1 d.f_House_answer_arrives d.fd_House_answer_arrives ["self", "letter"] (sp_House_answer_arrives K d) := by
  refine T.F_House_answer_arrives.ok sc_House_answer_arrives (fun vs H Q E h => ?_) (fun cdv A outer sh H vs Q E hr h => ?_)
  · obtain ⟨x, s, t, c, n, v, rfl, h, h3, hl, ht, hc, k⟩ := h
    rfl
  obtain ⟨x, s, t, c, n, v, rfl, h, h3, hl, ht, hc, k⟩ := h
  refine ⟨_, (pss_cons (ps_set (i := 2) sc_House_answer_arrives.nd rfl (Or.inl rfl) (pe_dget (hu_of hr) (pe_fld (pv 0) rfl) (pe_ix ix_tup (pv 1) pe_int (fun _ _ => rfl)) (fun _ _ => rfl)))
      (pss_cons (ps_set (i := 3) sc_House_answer_arrives.nd rfl (Or.inl rfl) (pe_ix ix_tup (pv 1) pe_int (fun _ _ => rfl)))
      (pss_one (ps_if (PW.pt (pw_and (pt_val (pe_fld (pv 2) rfl)) (pw_and1 (pt_cmpR op_eq (pe_fld (pv 2) rfl) (pv 3) (nomark _))))) (pss_cons (ps_expr (pe_bm PySem.F.plainAttrs_list PySem.F.slot_list_append PySem.F.type_list_append mt_append (pe_fld (pv 2) rfl) (pa_cons (pe_ix ix_tup (pv 1) pe_int (fun _ _ => rfl)) pa_nil)))
      (pss_one (ps_fld (pv 2) pe_bl rfl))) pss_nil)))), ?_⟩
  refine s_seq (s_set (h_client T h (e_var rfl) (e_ixT (e_var rfl) e_c (SqT.of ht) (at_of (j := 1) rfl rfl)) hc) ?_)
  refine s_seq (s_set (v := .int (n : Int)) (e_ixT (e_var rfl) e_c (SqT.of ht) (at_of (j := 2) rfl rfl)) ?_)
  refine s_if (tv_and (tv_B (e_fld (e_var rfl) (h.cli hc) T.cl_Client T.na_Client_waits (lk_Client_waits ..))) fun _ => tv_T (e_eqI (e_fld (e_var rfl) (h.cli hc) T.cl_Client T.na_Client_made (lk_Client_made ..)) (e_var rfl))) (fun b => ?_) (fun b => ?_)
  · have hb : (Ha10.client s c).waits = true ∧ (Ha10.client s c).num = n := by
      rw [Bool.and_eq_true, decide_eq_true_eq] at b
      exact ⟨b.1, by omega⟩
    have st : Ha10.arrives s (.told c n v) = Ha10.setClient s c { Ha10.client s c with waits := false, heard := (Ha10.client s c).heard ++ [v] } := if_pos hb
    rw [st] at k
    refine s_seq (s_append (y := .int (v : Int)) (e_fld (e_var rfl) (h.cli hc) T.cl_Client T.na_Client_heard (lk_Client_heard ..)) (e_ixT (e_var rfl) e_c (SqT.of ht) (at_of (j := 3) rfl rfl)) (h.hrd hc) (by rw [nv_len]; exact szl hl) ?_)
    have e1 : nv (Ha10.client s c).heard ++ [.int (v : Int)] = nv ((Ha10.client s c).heard ++ [v]) := (nv_app _ [v]).symm
    rw [e1]
    have g := h.setHd h3 hc ((Ha10.client s c).heard ++ [v])
    have f1 := Fr.set (x' := x) (o := .lst (nv ((Ha10.client s c).heard ++ [v]))) h (.hd (ci c)) rfl
    have h3' : (Ha10.setClient s c { Ha10.client s c with heard := (Ha10.client s c).heard ++ [v] }).clients.length = 3 := by
      show (s.clients.set _ _).length = 3
      rw [List.length_set]
      exact h3
    have cc : Ha10.client (Ha10.setClient s c { Ha10.client s c with heard := (Ha10.client s c).heard ++ [v] }) c = { Ha10.client s c with heard := (Ha10.client s c).heard ++ [v] } := by
      rw [client_set h3 _ hc hc.1, if_pos rfl]
    have gc := g.cli hc
    rw [cc] at gc
    refine s_fld (y := .bl false) e_c (e_var rfl) gc T.cl_Client T.na_Client_waits (few_Client ..) ?_
    rw [pt_Client_waits]
    have g2 := g.setCl h3' hc (n := (Ha10.client s c).num) (b := false) (q := (Ha10.client s c).ask) (g.tk.aqT (ci c)) (fun z => nomatch z)
    have ss : Ha10.setClient (Ha10.setClient s c { Ha10.client s c with heard := (Ha10.client s c).heard ++ [v] }) c ⟨(Ha10.client s c).num, (Ha10.client s c).ask, false, (Ha10.client (Ha10.setClient s c { Ha10.client s c with heard := (Ha10.client s c).heard ++ [v] }) c).heard⟩ = Ha10.setClient s c { Ha10.client s c with waits := false, heard := (Ha10.client s c).heard ++ [v] } := by
      rw [cc]
      unfold Ha10.setClient
      simp only [List.set_set]
    rw [ss] at g2
    exact k _ _ g2 rfl (f1.trans (Fr.set g (.cl (ci c)) rfl))
  · have hb : ¬ ((Ha10.client s c).waits = true ∧ (Ha10.client s c).num = n) := fun z => by
      rw [Bool.and_eq_false_iff, decide_eq_false_iff_not] at b
      rcases b with b | b
      · rw [z.1] at b; cases b
      · exact b (by omega)
    have st : Ha10.arrives s (.told c n v) = s := if_neg hb
    rw [st] at k
    exact k _ _ h rfl (Fr.refl H x)
theorem ok_House_forget (T : Txt K mg d) : FnOk P w K mg base CX0 1 d.f_House_forget d.fd_House_forget ["self"] (sp_House_forget K d) := by
  refine T.F_House_forget.ok sc_House_forget (fun vs H Q E h => ?_) (fun cdv A outer sh H vs Q E hr h => ?_)
  · obtain ⟨x, s, rfl, h, k⟩ := h
    rfl
  obtain ⟨x, s, rfl, h, k⟩ := h
  refine ⟨_, (pss_cons (ps_fld (pv 0) (pe_lst pa_nil) rfl)
      (pss_cons (ps_fld (pv 0) (pe_lst pa_nil) rfl)
      (pss_one (ps_fld (pv 0) (pe_lst pa_nil) rfl)))), ?_⟩
  refine s_seq (s_fldL (l_lst a_nil (by decide)) (fun _ => e_var rfl) (h.at_ .house) T.cl_House T.na_House_waiting (hF_few ..) fun p H1 hp sm e => ?_)
  obtain ⟨h1, f1⟩ := h.newW hp sm e []
  refine s_seq (s_fldL (l_lst a_nil (by decide)) (fun _ => e_var rfl) (h1.at_ .house) T.cl_House T.na_House_noted (hF_few ..) fun p2 H2 hp2 sm2 e2 => ?_)
  obtain ⟨h2, f2⟩ := h1.newN hp2 sm2 e2
  refine s_fldL (l_lst a_nil (by decide)) (fun _ => e_var rfl) (h2.at_ .house) T.cl_House T.na_House_times (hF_few ..) fun p3 H3 hp3 sm3 e3 => ?_
  obtain ⟨h3, f3⟩ := h2.newT (ts := []) hp3 sm3 e3
  exact k _ _ h3 rfl (f1.trans (f2.trans f3))
theorem ok_House_process_lives (T : Txt K mg d) : FnOk P w K mg base CX0 1 d.f_House_process_lives d.fd_House_process_lives ["self", "process"] (sp_House_process_lives K d) := by
  refine T.F_House_process_lives.ok sc_House_process_lives (fun vs H Q E h => ?_) (fun cdv A outer sh H vs Q E hr h => ?_)
  · obtain ⟨x, s, p, rfl, h, hl, h1, h4, k⟩ := h
    rfl
  obtain ⟨x, s, p, rfl, h, hl, h1, h4, k⟩ := h
  refine ⟨_, (pss_cons (ps_dput (hu_of hr) (pe_fld (pv 0) rfl) (pv 1) pe_bl rfl)
      (pss_one (ps_daug (hu_of hr) (pe_fld (pv 0) rfl) (pv 1) pe_int in_add (fun _ _ _ => rfl)))), ?_⟩
  refine s_seq (s_dput (v := .bl true) e_c (hf_living T h (e_var rfl)) (e_var rfl) (h.at_ .living) (by show 4 < sizeLine; decide) ?_)
  have g := h.living hl ⟨h1, h4⟩ true
  have f1 := Fr.set (x' := x) (o := .dK (putK (kv4 fun p => .bl (Ha10.lives s p)) (.inl (p : Int)) (.bl true))) h .living rfl
  have hl2 : (setp s p ⟨true, (Ha10.proc s p).life⟩).procs.length = 4 := (setp_len _ _ _).trans hl
  refine s_daug (hf_lives T g (e_var rfl)) (e_var rfl) e_c (g.at_ .lives) (kv4_val (fun q => V.int ((Ha10.proc (setp s p ⟨true, (Ha10.proc s p).life⟩) q).life : Int)) h1 h4) (by show 4 < sizeLine; decide) ?_
  have e1 : (Ha10.proc (setp s p ⟨true, (Ha10.proc s p).life⟩) p).life = (Ha10.proc s p).life := by rw [life_setp hl _ ⟨h1, h4⟩ h1, if_pos rfl]
  have e2 : Ha10.lives (setp s p ⟨true, (Ha10.proc s p).life⟩) p = true := by rw [lives_setp hl _ ⟨h1, h4⟩ h1, if_pos rfl]
  have g2 := g.lives hl2 ⟨h1, h4⟩ ((Ha10.proc s p).life + 1)
  have ss : setp (setp s p ⟨true, (Ha10.proc s p).life⟩) p ⟨Ha10.lives (setp s p ⟨true, (Ha10.proc s p).life⟩) p, (Ha10.proc s p).life + 1⟩ = Ha10.started s p := by
    rw [e2]
    unfold setp Ha10.started
    simp only [List.set_set]
  rw [ss] at g2
  have ei : (((Ha10.proc (setp s p ⟨true, (Ha10.proc s p).life⟩) p).life : Int) + 1) = (((Ha10.proc s p).life + 1 : Nat) : Int) := by
    rw [e1]
    omega
  dsimp only
  rw [ei]
  exact k _ _ g2 rfl (f1.trans (Fr.set g .lives rfl))
end
end Su

namespace Su
open PySem PySem.Spec PyProof.Rows L2
/-! ### mathematics of the four processes -/
theorem fold_keep {f : Ha10.St → Nat → Ha10.St} {β : Type} (g : Ha10.St → β) (h : ∀ s p, g (f s p) = g s) : ∀ (l : List Nat) (s : Ha10.St), g (l.foldl f s) = g s
  | [], _ => rfl
  | p :: l, s => (fold_keep g h l (f s p)).trans (h s p)
theorem fold_snoc {f : Ha10.St → Nat → Ha10.St} {l : List Nat} {i p : Nat} (h : l[i]? = some p) (s : Ha10.St) : (l.take (i + 1)).foldl f s = f ((l.take i).foldl f s) p := by
  have : l.take (i + 1) = l.take i ++ [p] := by rw [List.take_add_one, h]; rfl
  rw [this, List.foldl_append]
  rfl
theorem stopped_len (s : Ha10.St) (p : Nat) : (Ha10.stopped s p).procs.length = s.procs.length := List.length_set ..
theorem started_len (s : Ha10.St) (p : Nat) : (Ha10.started s p).procs.length = s.procs.length := List.length_set ..
theorem nv_at {l : List Nat} {i : Nat} {y : V} (h : (nv l)[i]? = some y) : ∃ n : Nat, l[i]? = some n ∧ y = .int (n : Int) := by
  unfold nv at h
  rw [List.getElem?_map] at h
  cases q : l[i]? with
  | none => rw [q] at h; cases h
  | some n => rw [q] at h; exact ⟨n, rfl, (Option.some.inj h).symm⟩
theorem four {i p : Nat} (h : ([1, 2, 3, 4] : List Nat)[i]? = some p) : 1 ≤ p ∧ p ≤ 4 := by
  have := List.mem_of_getElem? h
  simp at this
  omega
section
variable {P : Program} {w : World} {K : PySem.W.Frag} {mg : Str → Option Value} {base : Heap} {d : Ad}
theorem ok_House_go_down (T : Txt K mg d) : FnOk P w K mg base CX0 3 d.f_House_go_down d.fd_House_go_down ["self"] (sp_House_go_down K d) := by
  refine T.F_House_go_down.ok sc_House_go_down (fun vs H Q E h => ?_) (fun cdv A outer sh H vs Q E hr h => ?_)
  · obtain ⟨x, s, rfl, h, hl, k⟩ := h
    rfl
  obtain ⟨x, s, rfl, h, hl, k⟩ := h
  refine ⟨_, (pss_cons (ps_for PassesOwn.never rfl (pi_tup (pe_glob (v := V.ref d.a_PROCESSES) (by rfl) T.g_PROCESSES rfl)) (pg_name (i := 1) sc_House_go_down.nd rfl (Or.inl rfl)) (pss_one (ps_dput (hu_of hr) (pe_fld (pv 0) rfl) (pv 1) pe_bl rfl)))
      (pss_cons (ps_fld (pv 0) (pe_make0 T.mk_Book (ok_Book_init T) (hr.mono (by decide)) (by rfl) T.gc_Book T.b_Book_init .nil pass0) rfl)
      (pss_one (ps_expr (pe_meth0 (pv 0) T.cl_House T.m_House_forget (ok_House_forget T) (hr.mono (by decide)) T.b_House_forget .nil pass0))))), ?_⟩
  refine s_seq ⟨_, rfl, ⟨_, T.q_PROCESSES H⟩, for_tup (K := K) (a := d.a_PROCESSES) (xs := nv [1, 2, 3, 4]) (fun i σ' H' => ∃ (v : Option V) (x' : Dec), σ' = [some (.ref (x.A .house)), v] ∧ HAt d H' x' ((([1, 2, 3, 4] : List Nat).take i).foldl Ha10.stopped s) ∧ Fr H x H' x') ⟨none, x, rfl, h, Fr.refl H x⟩ (fun i σ' H' _ _ => T.q_PROCESSES H') ?_ ?_⟩
  · rintro i y σ' H' hi ⟨v, x', rfl, h', f'⟩
    obtain ⟨p, hp, rfl⟩ := nv_at hi
    have p4 := four hp
    have hl' : ((([1, 2, 3, 4] : List Nat).take i).foldl Ha10.stopped s).procs.length = 4 := (fold_keep (fun s => s.procs.length) stopped_len _ _).trans hl
    refine s_dput (v := .bl false) e_c (hf_living T h' (e_var (by rw [f'.hs]; rfl))) (e_var rfl) (h'.at_ .living) (by show 4 < sizeLine; decide) ?_
    have g := h'.living hl' p4 false
    refine ⟨_, x', rfl, ?_, f'.trans (Fr.set h' .living rfl)⟩
    rw [fold_snoc hp]
    exact g
  · rintro σ' H' ⟨v, x', rfl, h', f'⟩
    have h' : HAt d H' x' (([1, 2, 3, 4] : List Nat).foldl Ha10.stopped s) := h'
    dsimp only
    refine s_seq (c_mkBook fun H1 a acc dn na nac nd B sm => ?_)
    have h1 := h'.same sm
    refine e_var (v := .ref (x'.A .house)) (by rw [f'.hs]; rfl) _ ⟨_, _, _, _, rfl, h1.at_ .house, T.cl_House, T.na_House_book, hF_few .., ?_⟩
    obtain ⟨dx, g, fg⟩ := h'.newB na nac nd sm B
    refine c_meth (e_var (v := .ref (x'.A .house)) (by rw [f'.hs]; rfl)) (g.at_ .house) (no_House_forget ..) a_nil ⟨xB x' a acc dn dx [], _, rfl, g, fun H2 x2 g2 w2 f2 => ?_⟩
    refine k _ x2 g2 ?_ (f'.trans (fg.trans f2))
    unfold WL
    rw [w2]
    rfl
theorem ok_House_come_up (T : Txt K mg d) : FnOk P w K mg base CX0 4 d.f_House_come_up d.fd_House_come_up ["self"] (sp_House_come_up K d) := by
  refine T.F_House_come_up.ok sc_House_come_up (fun vs H Q E h => ?_) (fun cdv A outer sh H vs Q E hr h => ?_)
  · obtain ⟨x, s, rfl, h, hl, k⟩ := h
    rfl
  obtain ⟨x, s, rfl, h, hl, k⟩ := h
  refine ⟨_, (pss_cons (ps_for PassesOwn.never rfl (pi_tup (pe_glob (v := V.ref d.a_PROCESSES) (by rfl) T.g_PROCESSES rfl)) (pg_name (i := 1) sc_House_come_up.nd rfl (Or.inl rfl)) (pss_one (ps_expr (pe_meth (pv 0) T.cl_House T.m_House_process_lives (ok_House_process_lives T) (hr.mono (by decide)) T.b_House_process_lives .nil pass0 (pa_cons (pv 1) pa_nil)))))
      (pss_cons (ps_fld (pv 0) (pe_meth0 (pe_fld (pv 0) rfl) T.cl_Book T.m_Book_copy (ok_Book_copy T) (hr.mono (by decide)) T.b_Book_copy .nil pass0) rfl)
      (pss_one (ps_expr (pe_meth0 (pv 0) T.cl_House T.m_House_forget (ok_House_forget T) (hr.mono (by decide)) T.b_House_forget .nil pass0))))), ?_⟩
  refine s_seq ⟨_, rfl, ⟨_, T.q_PROCESSES H⟩, for_tup (K := K) (a := d.a_PROCESSES) (xs := nv [1, 2, 3, 4]) (fun i σ' H' => ∃ (v : Option V) (x' : Dec), σ' = [some (.ref (x.A .house)), v] ∧ HAt d H' x' ((([1, 2, 3, 4] : List Nat).take i).foldl Ha10.started s) ∧ Fr H x H' x') ⟨none, x, rfl, h, Fr.refl H x⟩ (fun i σ' H' _ _ => T.q_PROCESSES H') ?_ ?_⟩
  · rintro i y σ' H' hi ⟨v, x', rfl, h', f'⟩
    obtain ⟨p, hp, rfl⟩ := nv_at hi
    have p4 := four hp
    have hl' : ((([1, 2, 3, 4] : List Nat).take i).foldl Ha10.started s).procs.length = 4 := (fold_keep (fun s => s.procs.length) started_len _ _).trans hl
    refine c_meth (e_var (v := .ref (x'.A .house)) (by rw [f'.hs]; rfl)) (h'.at_ .house) (no_House_process_lives ..) (a_cons (e_var rfl) a_nil) ⟨x', _, p, rfl, h', hl', p4.1, p4.2, fun H2 x2 g2 w2 f2 => ?_⟩
    refine ⟨_, x2, rfl, ?_, f'.trans f2⟩
    rw [fold_snoc hp]
    exact g2
  · rintro σ' H' ⟨v, x', rfl, h', f'⟩
    have h' : HAt d H' x' (([1, 2, 3, 4] : List Nat).foldl Ha10.started s) := h'
    have ed : (([1, 2, 3, 4] : List Nat).foldl Ha10.started s).disk = s.disk := fold_keep (f := Ha10.started) (fun s => s.disk) (fun _ _ => rfl) _ _
    dsimp only
    refine s_seq (c_meth (hf_disk T h' (e_var (by rw [f'.hs]; rfl))) (h'.at_ .disk) (no_Book_copy ..) a_nil ⟨_, _, _, _, _, rfl, h'.diskAt, fun H1 a acc dn na nac nd B sm => ?_⟩)
    have h1 := h'.same sm
    refine e_var (v := .ref (x'.A .house)) (by rw [f'.hs]; rfl) _ ⟨_, _, _, _, rfl, h1.at_ .house, T.cl_House, T.na_House_book, hF_few .., ?_⟩
    obtain ⟨dx, g, fg⟩ := h'.newB na nac nd sm B
    rw [h'.diskIs, ed] at g
    refine c_meth (e_var (v := .ref (x'.A .house)) (by rw [f'.hs]; rfl)) (g.at_ .house) (no_House_forget ..) a_nil ⟨xB x' a acc dn dx x'.dd, _, rfl, g, fun H2 x2 g2 w2 f2 => ?_⟩
    refine k _ x2 g2 ?_ (f'.trans (fg.trans f2))
    unfold WL
    rw [w2]
    rfl
theorem ok_House_reply_to (T : Txt K mg d) : FnOk P w K mg base CX0 2 d.f_House_reply_to d.fd_House_reply_to ["self", "letter"] (sp_House_reply_to K d) := by
  refine T.F_House_reply_to.ok sc_House_reply_to (fun vs H Q E h => ?_) (fun cdv A outer sh H vs Q E hr h => ?_)
  · obtain ⟨x, s, t, sv, sl, life, c, n, a, en, rfl, h, ht, he, hl, k⟩ := h
    rfl
  obtain ⟨x, s, t, sv, sl, life, c, n, a, en, rfl, h, ht, he, hl, k⟩ := h
  refine ⟨_, (pss_cons (ps_set (i := 2) sc_House_reply_to.nd rfl (Or.inl rfl) (pe_ix ix_tup (pv 1) pe_int (fun _ _ => rfl)))
      (pss_cons (ps_set (i := 3) sc_House_reply_to.nd rfl (Or.inl rfl) (pe_ix ix_tup (pv 1) pe_int (fun _ _ => rfl)))
      (pss_cons (ps_set (i := 4) sc_House_reply_to.nd rfl (Or.inl rfl) (pe_ix ix_tup (pv 1) pe_int (fun _ _ => rfl)))
      (pss_cons (ps_set (i := 5) sc_House_reply_to.nd rfl (Or.inl rfl) (pe_ix ix_tup (pv 1) pe_int (fun _ _ => rfl)))
      (pss_one (ps_ret (pe_tup (pa_cons (pe_gI (by rfl) T.g_FROM_STORE) (pa_cons (pv 2) (pa_cons (pv 3) (pa_cons (pv 4) (pa_cons (pv 5) (pa_cons (pe_meth (pe_fld (pv 0) rfl) T.cl_Book T.m_Book_answer_to (ok_Book_answer_to T) (hr.mono (by decide)) T.b_Book_answer_to .nil pass0 (pa_cons (pv 4) (pa_cons (pv 5) pa_nil))) pa_nil))))))))))))), ?_⟩
  refine s_seq (s_set (v := .int (sv : Int)) (e_ixT (e_var rfl) e_c (SqT.of ht) (at_of (j := 1) rfl rfl)) ?_)
  refine s_seq (s_set (v := .int (sl : Int)) (e_ixT (e_var rfl) e_c (SqT.of ht) (at_of (j := 2) rfl rfl)) ?_)
  refine s_seq (s_set (v := .int (c : Int)) (e_ixT (e_var rfl) e_c (SqT.of ht) (at_of (j := 4) rfl rfl)) ?_)
  refine s_seq (s_set (v := .int (n : Int)) (e_ixT (e_var rfl) e_c (SqT.of ht) (at_of (j := 5) rfl rfl)) ?_)
  have ee : Ha10.entryOf ⟨s.book.values, x.bd.map (·.2)⟩ c n = some en := by rw [h.bookIs]; exact he
  refine ⟨_, rfl, _, rfl, _, rfl, _, rfl, c_meth (hf_book T h (e_var rfl)) (h.at_ .book) (no_Book_answer_to ..) (a_cons (e_var rfl) (a_cons (e_var rfl) a_nil)) ⟨_, _, _, _, _, c, n, en, rfl, h.bookAt, by rw [h.bdLen]; exact hl, ee, fun H1 sm => ?_⟩⟩
  refine ⟨by show 6 ≤ sizeLine; decide, fun p hp => k _ p (sm.free hp) (sm.trans (same_new hp)) upd_same⟩
section
variable {σ : L2.St} {H : Hp} {x : Dec} {s : Ha10.St} {te tb : TE}
theorem e_bookLast (T : Txt K mg d) (h : HAt d H x s) (hl : s.book.done.length ≤ 1000000) {c : Nat} (hv : Ev0 te σ H (.ref (x.A .house))) (hc : Ev0 tb σ H (.int (c : Int))) :
    Es0 (tMeth d.c_Book "last" (sp_Book_last K d) [] E0 (tFld K te "book") (tCons tb tNil)) σ H (.int ((Ha10.lastOf s.book c : Nat) : Int)) := fun Q q =>
  c_meth (hf_book T h hv) (h.at_ .book) (no_Book_last ..) (a_cons hc a_nil) ⟨_, _, _, _, _, c, rfl, h.bookAt, by rw [h.bdLen]; exact hl, fun H' sm => by rw [h.bookIs]; exact q H' sm⟩
theorem e_diskLast (T : Txt K mg d) (h : HAt d H x s) (hl : s.disk.done.length ≤ 1000000) {c : Nat} (hv : Ev0 te σ H (.ref (x.A .house))) (hc : Ev0 tb σ H (.int (c : Int))) :
    Es0 (tMeth d.c_Book "last" (sp_Book_last K d) [] E0 (tFld K te "disk") (tCons tb tNil)) σ H (.int ((Ha10.lastOf s.disk c : Nat) : Int)) := fun Q q =>
  c_meth (hf_disk T h hv) (h.at_ .disk) (no_Book_last ..) (a_cons hc a_nil) ⟨_, _, _, _, _, c, rfl, h.diskAt, by rw [h.ddLen]; exact hl, fun H' sm => by rw [h.diskIs]; exact q H' sm⟩
theorem u_reply (h : HAt d H x s) (hl : s.book.done.length ≤ 1000000) {t : Addr} {sv sl life c k : Nat} {a : Ha10.Ask} {e : Ha10.Entry} (hv : Ev0 te σ H (.ref (x.A .house))) (hc : Ev0 tb σ H (.ref t)) (ht : H t = some (.tup (nv (Ha10.letterTold (.do_ sv sl life c k a))))) (he : Ha10.entryOf s.book c k = some e) :
    Eu0 (tMeth d.c_House "reply_to" (sp_House_reply_to K d) [] E0 te (tCons tb tNil)) σ H (nv (Ha10.letterTold (.back sv sl c k e.answer))) := fun Q q =>
  c_meth hv (h.at_ .house) (no_House_reply_to ..) (a_cons hc a_nil) ⟨x, s, t, sv, sl, life, c, k, a, e, rfl, h, ht, he, hl, fun H' p hp sm e => q p H' hp sm e⟩
end
theorem ok_House_store_is_asked (T : Txt K mg d) : FnOk P w K mg base CX0 3 d.f_House_store_is_asked d.fd_House_store_is_asked ["self", "letter"] (sp_House_store_is_asked K d) := by
  refine T.F_House_store_is_asked.ok sc_House_store_is_asked (fun vs H Q E h => ?_) (fun cdv A outer sh H vs Q E hr h => ?_)
  · obtain ⟨x, s, n, t, sv, sl, life, c, m, a, rfl, h, ht, hm, ha, h2, k⟩ := h
    rfl
  obtain ⟨x, s, n, t, sv, sl, life, c, m, a, rfl, h, ht, hm, ha, h2, k⟩ := h
  refine ⟨_, (pss_cons (ps_set (i := 2) sc_House_store_is_asked.nd rfl (Or.inl rfl) (pe_ix ix_tup (pv 1) pe_int (fun _ _ => rfl)))
      (pss_cons (ps_set (i := 3) sc_House_store_is_asked.nd rfl (Or.inl rfl) (pe_ix ix_tup (pv 1) pe_int (fun _ _ => rfl)))
      (pss_cons (ps_set (i := 4) sc_House_store_is_asked.nd rfl (Or.inl rfl) (pe_slice sl_tup (pv 1) (po_some pe_int) po_none))
      (pss_cons (ps_set (i := 5) sc_House_store_is_asked.nd rfl (Or.inl rfl) (pe_meth (pe_fld (pv 0) rfl) T.cl_Book T.m_Book_last (ok_Book_last T) (hr.mono (by decide)) T.b_Book_last .nil pass0 (pa_cons (pv 2) pa_nil)))
      (pss_one (ps_if (pt_cmpR op_le (pv 3) (pe_meth (pe_fld (pv 0) rfl) T.cl_Book T.m_Book_last (ok_Book_last T) (hr.mono (by decide)) T.b_Book_last .nil pass0 (pa_cons (pv 2) pa_nil)) (nomark _)) (pss_one (ps_if (pt_cmpR op_eq (pv 3) (pv 5) (nomark _)) (pss_one (ps_expr (pe_bm PySem.F.plainAttrs_list PySem.F.slot_list_append PySem.F.type_list_append mt_append (pe_fld (pv 0) rfl) (pa_cons (pe_meth (pv 0) T.cl_House T.m_House_reply_to (ok_House_reply_to T) (hr.mono (by decide)) T.b_House_reply_to .nil pass0 (pa_cons (pv 1) pa_nil)) pa_nil)))) pss_nil)) (pss_one (ps_if (pt_cmpR op_eq (pv 3) (pv 5) (nomark _)) (pss_one (ps_expr (pe_bm PySem.F.plainAttrs_list PySem.F.slot_list_append PySem.F.type_list_append mt_append (pe_fld (pv 0) rfl) (pa_cons (pe_meth (pv 0) T.cl_House T.m_House_reply_to (ok_House_reply_to T) (hr.mono (by decide)) T.b_House_reply_to .nil pass0 (pa_cons (pv 1) pa_nil)) pa_nil)))) (pss_one (ps_if (pt_cmpR op_eq (pv 3) (pe_op op_add (pv 5) pe_int) (nomark _)) (pss_cons (ps_expr (pe_meth (pe_fld (pv 0) rfl) T.cl_Book T.m_Book_do_request (ok_Book_do_request T) (hr.mono (by decide)) T.b_Book_do_request .nil pass0 (pa_cons (pv 2) (pa_cons (pv 3) (pa_cons (pv 4) pa_nil)))))
      (pss_one (ps_expr (pe_bm PySem.F.plainAttrs_list PySem.F.slot_list_append PySem.F.type_list_append mt_append (pe_fld (pv 0) rfl) (pa_cons (pe_meth (pv 0) T.cl_House T.m_House_reply_to (ok_House_reply_to T) (hr.mono (by decide)) T.b_House_reply_to .nil pass0 (pa_cons (pv 1) pa_nil)) pa_nil))))) pss_nil)))))))))), ?_⟩
  have bdl : s.book.done.length ≤ 1000000 := Nat.le_trans h.inv.bd.book (Nat.le_trans h.le (by decide))
  have ddl : s.disk.done.length ≤ 1000000 := Nat.le_trans h.inv.bd.disk (Nat.le_trans h.le (by decide))
  have awl : s.air.length + s.waiting.length ≤ 1000000 := Nat.le_trans h.inv.bd.air (Nat.le_trans h.le (by decide))
  have pre : s.disk.done <+: s.book.done := by
    refine h.inv.wf.pre ?_
    cases e : Ha10.lives s 1 with
    | true => rfl
    | false =>
      have := (h.inv.wf.dead e).1 2 (by decide) (by decide)
      rw [h2] at this
      cases this
  refine s_seq (s_set (v := .int (c : Int)) (e_ixT (e_var rfl) e_c (SqT.of ht) (at_of (j := 4) rfl rfl)) ?_)
  refine s_seq (s_set (v := .int (m : Int)) (e_ixT (e_var rfl) e_c (SqT.of ht) (at_of (j := 5) rfl rfl)) ?_)
  dsimp only
  refine s_seq (s_setU (xs := nv (Ha10.askTold a)) (u_slice (e_var rfl) e_c (SqT.of ht) (by show ¬ HT.sIx 9 0 (some 6) = 0; decide)) fun p H1 hp sm e => ?_)
  have g1 := h.at_.same sm
  dsimp only
  refine s_seq (s_setS (e_bookLast T g1 bdl (e_var rfl) (e_var rfl)) fun H2 sm2 => ?_)
  have g2 := g1.same sm2
  dsimp only
  refine s_ifS (ts_T (e_leS (e_var rfl) (e_diskLast T g2 ddl (e_var rfl) (e_var rfl)))) (fun H3 sm3 b => ?_) (fun H3 sm3 b => ?_)
  · have g3 := g2.same sm3
    have s03 : Same H H3 := sm.trans (sm2.trans sm3)
    have le : m ≤ Ha10.lastOf s.disk c := by
      have := of_decide_eq_true b
      omega
    obtain ⟨en, he⟩ := Option.isSome_iff_exists.mp ((entry_iff h.inv.wf.disk hm).mpr le)
    refine s_if (tv_T (e_eqI (e_var rfl) (e_var rfl))) (fun b2 => ?_) (fun b2 => ?_)
    · have eq : m = Ha10.lastOf s.book c := by
        have := of_decide_eq_true b2
        omega
      have st : Ha10.asked s sv sl c m a = Ha10.send s [.back sv sl c m en.answer] := by
        unfold Ha10.asked
        rw [he]
        exact if_pos eq
      rw [st] at k
      refine s_appendU (ys := nv (Ha10.letterTold (.back sv sl c m en.answer))) (hf_letters T g3 (e_var rfl)) (u_reply g3 bdl (e_var rfl) (e_var rfl) (s03 _ _ ht) (entry_pre pre he)) (g3.at_ .letters) (by rw [g3.airLen]; exact szl (by omega)) fun q H4 hq sm4 e4 => ?_
      exact k _ _ ((g3.same sm4).sent e4) h.wl ((Fr.same x (s03.trans sm4)).trans (Fr.set (g3.same sm4) .letters rfl))
    · have ne : ¬ m = Ha10.lastOf s.book c := by
        have := of_decide_eq_false b2
        omega
      have st : Ha10.asked s sv sl c m a = s := by
        unfold Ha10.asked
        rw [he]
        exact if_neg ne
      rw [st] at k
      exact k _ _ g3 h.wl (Fr.same x s03)
  · have g3 := g2.same sm3
    have s03 : Same H H3 := sm.trans (sm2.trans sm3)
    have nle : ¬ m ≤ Ha10.lastOf s.disk c := by
      have := of_decide_eq_false b
      omega
    have he : Ha10.entryOf s.disk c m = none := by
      cases e : Ha10.entryOf s.disk c m with
      | none => rfl
      | some z => exact absurd ((entry_iff h.inv.wf.disk hm).mp (by rw [e]; rfl)) nle
    refine s_if (tv_T (e_eqI (e_var rfl) (e_var rfl))) (fun b2 => ?_) (fun b2 => ?_)
    · have eq : m = Ha10.lastOf s.book c := by
        have := of_decide_eq_true b2
        omega
      have st : Ha10.asked s sv sl c m a = { s with waiting := s.waiting ++ [(sv, sl, c, m)] } := by
        unfold Ha10.asked
        rw [he]
        exact if_pos eq
      obtain ⟨en, hb⟩ := Option.isSome_iff_exists.mp ((entry_iff h.inv.wf.book hm).mpr (Nat.le_of_eq eq))
      rw [st] at k
      refine s_appendU (ys := nv (Ha10.letterTold (.back sv sl c m en.answer))) (hf_waiting T g3 (e_var rfl)) (u_reply g3 bdl (e_var rfl) (e_var rfl) (s03 _ _ ht) hb) (g3.at_ .waiting) (by rw [refs_len]; exact szl (by have := h.wl.len; omega)) fun q H4 hq sm4 e4 => ?_
      refine k _ _ ((g3.same sm4).waited e4 _) ?_ ((Fr.same x (s03.trans sm4)).trans (Fr.set (g3.same sm4) .waiting rfl))
      show waitLetters s.book (s.waiting ++ [(sv, sl, c, m)]) = (x.wait ++ [(q, Ha10.Letter.back sv sl c m en.answer)]).map (·.2)
      rw [wl_snoc hb, h.wl, List.map_append]
      rfl
    · have ne : ¬ m = Ha10.lastOf s.book c := by
        have := of_decide_eq_false b2
        omega
      refine s_if (tv_T (e_eqI (e_var rfl) (e_add (e_var rfl) e_c))) (fun b3 => ?_) (fun b3 => ?_)
      · have eq : m = Ha10.lastOf s.book c + 1 := by
          have := of_decide_eq_true b3
          omega
        have st : Ha10.asked s sv sl c m a = { s with book := Ha10.put s.book c m a, waiting := s.waiting ++ [(sv, sl, c, m)] } := by
          unfold Ha10.asked
          rw [he]
          exact (if_neg ne).trans (if_pos eq)
        rw [st] at k
        refine s_seq (c_meth (hf_book T g3 (e_var rfl)) (g3.at_ .book) (no_Book_do_request ..) (a_cons (e_var rfl) (a_cons (e_var rfl) (a_cons (e_var rfl) a_nil))) ⟨_, _, _, p, _, _, c, m, a, rfl, g3.bookAt, sm3 _ _ (sm2 _ _ e), h.inv.wf.book.len, ha.2.1, by rw [g3.bdLen]; exact bdl, fun H4 tp htp B st4 => ?_⟩)
        obtain ⟨g4, f4⟩ := g3.put B st4
        have eb : (⟨s.book.values.set a.key (Ha10.doing a (s.book.values.getD a.key 0)).1, (x.bd ++ [(tp, (⟨c, m, a, (Ha10.doing a (s.book.values.getD a.key 0)).2⟩ : Ha10.Entry))]).map (·.2)⟩ : Ha10.Book) = Ha10.put s.book c m a := by
          unfold Ha10.put
          rw [List.map_append, ← g3.tk.bd]
          rfl
        rw [eb] at g4
        have hb := entry_put h.inv.wf.book a eq
        have ht4 : H4 t = some (.tup (nv (Ha10.letterTold (.do_ sv sl life c m a)))) := f4.tup g3 (s03 _ _ ht)
        dsimp only
        refine s_appendU (ys := nv (Ha10.letterTold (.back sv sl c m (Ha10.doing a (s.book.values.getD a.key 0)).2))) (hf_waiting T g4 (e_var rfl)) (u_reply g4 (by rw [← g4.bdLen]; show (x.bd ++ [_]).length ≤ 1000000; rw [List.length_append, g3.bdLen]; have := h.inv.bd.book; have := h.le; show s.book.done.length + 1 ≤ 1000000; omega) (e_var rfl) (e_var rfl) ht4 hb) (g4.at_ .waiting) (by rw [refs_len]; exact szl (by have := h.wl.len; show x.wait.length ≤ 1000000; omega)) fun q H5 hq sm5 e5 => ?_
        refine k _ _ ((g4.same sm5).waited e5 _) ?_ ((Fr.same x s03).trans (f4.trans ((Fr.same _ sm5).trans (Fr.set (g4.same sm5) .waiting rfl))))
        show waitLetters (Ha10.put s.book c m a) (s.waiting ++ [(sv, sl, c, m)]) = (x.wait ++ [(q, Ha10.Letter.back sv sl c m (Ha10.doing a (s.book.values.getD a.key 0)).2)]).map (·.2)
        rw [wl_snoc hb, wl_pre (put_pre _ _ _ _) (fun w hw => (h.inv.wf.wait w hw).1), h.wl, List.map_append]
        rfl
      · have ne2 : ¬ m = Ha10.lastOf s.book c + 1 := by
          have := of_decide_eq_false b3
          omega
        have st : Ha10.asked s sv sl c m a = s := by
          unfold Ha10.asked
          rw [he]
          exact (if_neg ne).trans (if_neg ne2)
        rw [st] at k
        exact k _ _ g3 h.wl (Fr.same x s03)
theorem ok_House_question_arrives (T : Txt K mg d) : FnOk P w K mg base CX0 4 d.f_House_question_arrives d.fd_House_question_arrives ["self", "letter"] (sp_House_question_arrives K d) := by
  refine T.F_House_question_arrives.ok sc_House_question_arrives (fun vs H Q E h => ?_) (fun cdv A outer sh H vs Q E hr h => ?_)
  · obtain ⟨x, s, n, t, sv, sl, life, c, m, a, rfl, h, ht, hm, ha, k⟩ := h
    rfl
  obtain ⟨x, s, n, t, sv, sl, life, c, m, a, rfl, h, ht, hm, ha, k⟩ := h
  refine ⟨_, (pss_cons (ps_set (i := 2) sc_House_question_arrives.nd rfl (Or.inl rfl) (pe_ix ix_tup (pv 1) pe_int (fun _ _ => rfl)))
      (pss_one (ps_if (PW.pt (pw_and (pt_val (pe_dget (hu_of hr) (pe_fld (pv 0) rfl) (pe_gI (by rfl) T.g_STORE) (fun _ _ => rfl))) (pw_and1 (pt_cmpR op_eq (pe_dget (hu_of hr) (pe_fld (pv 0) rfl) (pe_gI (by rfl) T.g_STORE) (fun _ _ => rfl)) (pv 2) (nomark _))))) (pss_one (ps_expr (pe_meth (pv 0) T.cl_House T.m_House_store_is_asked (ok_House_store_is_asked T) (hr.mono (by decide)) T.b_House_store_is_asked .nil pass0 (pa_cons (pv 1) pa_nil)))) pss_nil))), ?_⟩
  refine s_seq (s_set (v := .int (life : Int)) (e_ixT (e_var rfl) e_c (SqT.of ht) (at_of (j := 3) rfl rfl)) ?_)
  refine s_if (tv_and (tv_B (h_alive (p := 2) T h.at_ (e_var rfl) e_c (by decide) (by decide))) fun _ => tv_T (e_eqI (h_life (p := 2) T h.at_ (e_var rfl) e_c (by decide) (by decide)) (e_var rfl))) (fun b => ?_) (fun b => ?_)
  · have hb : Ha10.lives s 2 = true ∧ (Ha10.proc s 2).life = life := by
      rw [Bool.and_eq_true, decide_eq_true_eq] at b
      exact ⟨b.1, by omega⟩
    have st : Ha10.arrives s (.do_ sv sl life c m a) = Ha10.asked s sv sl c m a := if_pos hb
    rw [st] at k
    exact c_meth (e_var rfl) (h.at_.at_ .house) (no_House_store_is_asked ..) (a_cons (e_var rfl) a_nil) ⟨x, s, n, t, sv, sl, life, c, m, a, rfl, h, ht, hm, ha, hb.1, fun H' x' g wl f => k H' x' g wl f⟩
  · have hb : ¬ (Ha10.lives s 2 = true ∧ (Ha10.proc s 2).life = life) := fun z => by
      rw [Bool.and_eq_false_iff, decide_eq_false_iff_not] at b
      rcases b with b | b
      · rw [z.1] at b; cases b
      · exact b (by omega)
    have st : Ha10.arrives s (.do_ sv sl life c m a) = s := if_neg hb
    rw [st] at k
    exact k _ _ h.at_ h.wl (Fr.refl H x)
theorem ok_House_letter_arrives (T : Txt K mg d) : FnOk P w K mg base CX0 5 d.f_House_letter_arrives d.fd_House_letter_arrives ["self", "letter"] (sp_House_letter_arrives K d) := by
  refine T.F_House_letter_arrives.ok sc_House_letter_arrives (fun vs H Q E h => ?_) (fun cdv A outer sh H vs Q E hr h => ?_)
  · obtain ⟨x, s, n, t, l, rfl, h, ht, hl, k⟩ := h
    rfl
  obtain ⟨x, s, n, t, l, rfl, h, ht, hl, k⟩ := h
  refine ⟨_, (pss_one (ps_if (pt_cmpR op_eq (pe_ix ix_tup (pv 1) pe_int (fun _ _ => rfl)) (pe_gI (by rfl) T.g_REQUEST) (nomark _)) (pss_one (ps_expr (pe_meth (pv 0) T.cl_House T.m_House_request_arrives (ok_House_request_arrives T) (hr.mono (by decide)) T.b_House_request_arrives .nil pass0 (pa_cons (pv 1) pa_nil)))) (pss_one (ps_if (pt_cmpR op_eq (pe_ix ix_tup (pv 1) pe_int (fun _ _ => rfl)) (pe_gI (by rfl) T.g_TO_STORE) (nomark _)) (pss_one (ps_expr (pe_meth (pv 0) T.cl_House T.m_House_question_arrives (ok_House_question_arrives T) (hr.mono (by decide)) T.b_House_question_arrives .nil pass0 (pa_cons (pv 1) pa_nil)))) (pss_one (ps_if (pt_cmpR op_eq (pe_ix ix_tup (pv 1) pe_int (fun _ _ => rfl)) (pe_gI (by rfl) T.g_FROM_STORE) (nomark _)) (pss_one (ps_expr (pe_meth (pv 0) T.cl_House T.m_House_reply_arrives (ok_House_reply_arrives T) (hr.mono (by decide)) T.b_House_reply_arrives .nil pass0 (pa_cons (pv 1) pa_nil)))) (pss_one (ps_expr (pe_meth (pv 0) T.cl_House T.m_House_answer_arrives (ok_House_answer_arrives T) (hr.mono (by decide)) T.b_House_answer_arrives .nil pass0 (pa_cons (pv 1) pa_nil)))))))))), ?_⟩
  have awl : s.air.length + s.waiting.length ≤ 1000000 := Nat.le_trans h.inv.bd.air (Nat.le_trans h.le (by decide))
  have al : s.air.length ≤ 1000000 := by omega
  cases l with
  | req c sv m a =>
    refine s_if (tv_T (e_eqI (e_ixT (e_var rfl) e_c (SqT.of ht) (at_of (j := 0) rfl rfl)) e_c)) (fun _ => ?_) (fun b => absurd b (by decide))
    exact c_meth (e_var rfl) (h.at_.at_ .house) (no_House_request_arrives ..) (a_cons (e_var rfl) a_nil) ⟨x, s, t, c, sv, m, a, rfl, h.at_, al, ht, hl.2.1, fun H' x' g wl f => k H' x' g (by
      have e : Ha10.arrives s (.req c sv m a) = s ∨ ∃ l, Ha10.arrives s (.req c sv m a) = Ha10.send s l := by
        by_cases z : Ha10.lives s sv = true ∧ Ha10.lives s 2 = true
        · exact .inr ⟨_, if_pos z⟩
        · exact .inl (if_neg z)
      unfold WL
      rcases e with e | ⟨l, e⟩ <;> rw [e, wl] <;> exact h.wl) f⟩
  | do_ sv sl life c m a =>
    refine s_if (tv_T (e_eqI (e_ixT (e_var rfl) e_c (SqT.of ht) (at_of (j := 0) rfl rfl)) e_c)) (fun b => absurd b (by decide)) (fun _ => ?_)
    refine s_if (tv_T (e_eqI (e_ixT (e_var rfl) e_c (SqT.of ht) (at_of (j := 0) rfl rfl)) e_c)) (fun _ => ?_) (fun b => absurd b (by decide))
    exact c_meth (e_var rfl) (h.at_.at_ .house) (no_House_question_arrives ..) (a_cons (e_var rfl) a_nil) ⟨x, s, n, t, sv, sl, life, c, m, a, rfl, h, ht, hl.2.2.1, hl.2.2.2, fun H' x' g wl f => k H' x' g wl f⟩
  | back sv sl c m v =>
    refine s_if (tv_T (e_eqI (e_ixT (e_var rfl) e_c (SqT.of ht) (at_of (j := 0) rfl rfl)) e_c)) (fun b => absurd b (by decide)) (fun _ => ?_)
    refine s_if (tv_T (e_eqI (e_ixT (e_var rfl) e_c (SqT.of ht) (at_of (j := 0) rfl rfl)) e_c)) (fun b => absurd b (by decide)) (fun _ => ?_)
    refine s_if (tv_T (e_eqI (e_ixT (e_var rfl) e_c (SqT.of ht) (at_of (j := 0) rfl rfl)) e_c)) (fun _ => ?_) (fun b => absurd b (by decide))
    exact c_meth (e_var rfl) (h.at_.at_ .house) (no_House_reply_arrives ..) (a_cons (e_var rfl) a_nil) ⟨x, s, t, sv, sl, c, m, v, rfl, h.at_, al, ht, hl.1, fun H' x' g wl f => k H' x' g (by
      have e : Ha10.arrives s (.back sv sl c m v) = s ∨ ∃ l, Ha10.arrives s (.back sv sl c m v) = Ha10.send s l := by
        by_cases z : Ha10.lives s sv = true ∧ (Ha10.proc s sv).life = sl
        · exact .inr ⟨_, if_pos z⟩
        · exact .inl (if_neg z)
      unfold WL
      rcases e with e | ⟨l, e⟩ <;> rw [e, wl] <;> exact h.wl) f⟩
  | told c m v =>
    refine s_if (tv_T (e_eqI (e_ixT (e_var rfl) e_c (SqT.of ht) (at_of (j := 0) rfl rfl)) e_c)) (fun b => absurd b (by decide)) (fun _ => ?_)
    refine s_if (tv_T (e_eqI (e_ixT (e_var rfl) e_c (SqT.of ht) (at_of (j := 0) rfl rfl)) e_c)) (fun b => absurd b (by decide)) (fun _ => ?_)
    refine s_if (tv_T (e_eqI (e_ixT (e_var rfl) e_c (SqT.of ht) (at_of (j := 0) rfl rfl)) e_c)) (fun b => absurd b (by decide)) (fun _ => ?_)
    exact c_meth (e_var rfl) (h.at_.at_ .house) (no_House_answer_arrives ..) (a_cons (e_var rfl) a_nil) ⟨x, s, t, c, m, v, rfl, h.at_, h.inv.wf.clients, Nat.le_trans (h.inv.bd.heard _ (client_mem h.inv.wf.clients hl)) (Nat.le_trans h.le (by decide)), ht, hl, fun H' x' g wl f => k H' x' g (by
      have e : Ha10.arrives s (.told c m v) = s ∨ ∃ z, Ha10.arrives s (.told c m v) = Ha10.setClient s c z := by
        by_cases z : (Ha10.client s c).waits = true ∧ (Ha10.client s c).num = m
        · exact .inr ⟨_, if_pos z⟩
        · exact .inl (if_neg z)
      unfold WL
      rcases e with e | ⟨l, e⟩ <;> rw [e, wl] <;> exact h.wl) f⟩
theorem ok_House_store_saves (T : Txt K mg d) : FnOk P w K mg base CX0 4 d.f_House_store_saves d.fd_House_store_saves ["self"] (sp_House_store_saves K d) := by
  refine T.F_House_store_saves.ok sc_House_store_saves (fun vs H Q E h => ?_) (fun cdv A outer sh H vs Q E hr h => ?_)
  · obtain ⟨x, s, n, rfl, h, k⟩ := h
    rfl
  obtain ⟨x, s, n, rfl, h, k⟩ := h
  refine ⟨_, (pss_cons (ps_set (i := 1) sc_House_store_saves.nd rfl (Or.inl rfl) (pe_callB call_len_seq (by rfl) T.z_len PySem.boot_len (pa_cons (pe_fld (pv 0) rfl) pa_nil)))
      (pss_cons (ps_fld (pv 0) (pe_meth0 (pe_fld (pv 0) rfl) T.cl_Book T.m_Book_copy (ok_Book_copy T) (hr.mono (by decide)) T.b_Book_copy .nil pass0) rfl)
      (pss_cons (ps_expr (pe_bm PySem.F.plainAttrs_list PySem.F.slot_list_extend PySem.F.type_list_extend mt_extend (pe_fld (pv 0) rfl) (pa_cons (pe_fld (pv 0) rfl) pa_nil)))
      (pss_cons (ps_fld (pv 0) (pe_lst pa_nil) rfl)
      (pss_one (ps_ret (pv 1))))))), ?_⟩
  have awl : s.air.length + s.waiting.length ≤ 1000000 := Nat.le_trans h.inv.bd.air (Nat.le_trans h.le (by decide))
  have wlen : (waitLetters s.book s.waiting).length = x.wait.length := by rw [h.wl, List.length_map]
  refine s_seq (s_set (e_len (hf_waiting T h.at_ (e_var rfl)) (SqL.of (h.at_.at_ .waiting))) ?_)
  dsimp only
  refine s_seq (c_meth (hf_book T h.at_ (e_var rfl)) (h.at_.at_ .book) (no_Book_copy ..) a_nil ⟨_, _, _, _, _, rfl, h.at_.bookAt, fun H1 a acc dn na nac nd B sm => ?_⟩)
  have h1 := h.at_.same sm
  refine e_var (v := .ref (x.A .house)) rfl _ ⟨_, _, _, _, rfl, h1.at_ .house, T.cl_House, T.na_House_disk, hF_few .., ?_⟩
  obtain ⟨dx, g, fg⟩ := h.at_.newD na nac nd sm B
  rw [h.at_.bookIs] at g
  dsimp only
  refine s_seq (s_extend (hf_letters T g (e_var rfl)) (hf_waiting T g (e_var rfl)) (g.at_ .letters) (g.at_ .waiting) (by
    rw [refs_len, refs_len]
    refine sz ?_
    show x.air.length + x.wait.length ≤ 1000000
    have e1 := h.at_.airLen
    rw [refs_len] at e1
    have := h.wl.len
    omega) ?_)
  have g2 : HAt d (upd (upd H1 (x.A .house) (.ins d.c_House (x.dx .house) (putF "disk" (.ref a) (hFields x.A s.now)))) ((xD x a acc dn dx x.bd).A .letters) (.lst (refs (xD x a acc dn dx x.bd).air ++ refs (xD x a acc dn dx x.bd).wait))) { xD x a acc dn dx x.bd with air := x.air ++ x.wait } { s with disk := s.book, air := s.air ++ waitLetters s.book s.waiting } := by
    refine g.set .letters rfl ?_ (fun j hj => ?_) ⟨?_, ?_, g.tk.waitT, g.tk.bd, g.tk.bdT, g.tk.dd, g.tk.ddT, g.tk.aqT, g.tk.ask⟩
    · exact congrArg HO.lst (refs_app _ _)
    · cases j <;> first | rfl | exact absurd rfl hj
    · show s.air ++ waitLetters s.book s.waiting = (x.air ++ x.wait).map (·.2)
      rw [List.map_append, ← h.wl, ← h.at_.tk.air]
    · intro q hq
      rcases List.mem_append.mp hq with z | z
      · exact g.tk.airT q z
      · exact g.tk.waitT q z
  have f2 := Fr.set (x' := { xD x a acc dn dx x.bd with air := x.air ++ x.wait }) (o := .lst (refs (xD x a acc dn dx x.bd).air ++ refs (xD x a acc dn dx x.bd).wait)) g .letters rfl
  dsimp only
  refine s_seq (s_fldL (l_lst a_nil (by decide)) (fun _ => e_var rfl) (g2.at_ .house) T.cl_House T.na_House_waiting (hF_few ..) fun p H3 hp sm3 e3 => ?_)
  obtain ⟨g3, f3⟩ := g2.newW hp sm3 e3 []
  dsimp only
  refine s_ret (v := .int ((waitLetters s.book s.waiting).length : Int)) (e_is (e_var rfl) ?_) (k _ _ g3 rfl (fg.trans (f2.trans f3)))
  rw [refs_len, wlen]
end
end Su

namespace Su
open PySem PySem.Spec PyProof.Rows L2
section
variable {σ : L2.St} {H : Hp} {ta : TE}
theorem c_methX {a C dx : Addr} {fs : List (Str × V)} {m : Str} {sp : Sp} {tr : TA} {Q : VK} (ho : Ev0 ta σ H (.ref a)) (ha : H a = some (.ins C dx fs)) (hn : fs.lookup m = none) (k : tr σ H fun vs H2 => sp (.ref a :: (vs ++ [])) H2 Q E0) : tMeth C m sp [] E0 ta tr σ H Q :=
  ho _ ⟨a, dx, fs, rfl, ha, hn, k⟩
theorem a_one {Q : List V → Hp → Prop} (h : ta σ H fun y H1 => Q [y] H1) : tCons ta tNil σ H Q := h
end
section
variable {P : Program} {w : World} {K : PySem.W.Frag} {mg : Str → Option Value} {base : Heap} {d : Ad}
theorem ok_House_process_dies (T : Txt K mg d) : FnOk P w K mg base CX0 4 d.f_House_process_dies d.fd_House_process_dies ["self", "process"] (sp_House_process_dies K d) := by
  refine T.F_House_process_dies.ok sc_House_process_dies (fun vs H Q E h => ?_) (fun cdv A outer sh H vs Q E hr h => ?_)
  · obtain ⟨x, s, n, p, rfl, h, h1, h4, k⟩ := h
    rfl
  obtain ⟨x, s, n, p, rfl, h, h1, h4, k⟩ := h
  refine ⟨_, (pss_cons (ps_if (pt_cmpR op_eq (pv 1) (pe_gI (by rfl) T.g_KEEPER) (nomark _)) (pss_cons (ps_expr (pe_meth0 (pv 0) T.cl_House T.m_House_go_down (ok_House_go_down T) (hr.mono (by decide)) T.b_House_go_down .nil pass0))
      (pss_one ps_retN)) pss_nil)
      (pss_cons (ps_dput (hu_of hr) (pe_fld (pv 0) rfl) (pv 1) pe_bl rfl)
      (pss_cons (ps_expr (pe_bm PySem.F.plainAttrs_list PySem.F.slot_list_append PySem.F.type_list_append mt_append (pe_fld (pv 0) rfl) (pa_cons (pv 1) pa_nil)))
      (pss_one (ps_if (pt_cmpR op_eq (pv 1) (pe_gI (by rfl) T.g_STORE) (nomark _)) (pss_one (ps_fld (pv 0) (pe_lst pa_nil) rfl)) pss_nil))))), ?_⟩
  have nl : s.notes.length ≤ 1000000 := Nat.le_trans h.inv.bd.notes (Nat.le_trans h.le (by decide))
  have hl := h.inv.wf.procs
  refine s_seq (s_if (tv_T (e_eqI (e_var rfl) e_c)) (fun b => ?_) (fun b => ?_))
  · have p1 : p = 1 := by
      have := of_decide_eq_true b
      omega
    have st : Ha10.dies s p = Ha10.down s := if_pos p1
    rw [st] at k
    exact s_seq (c_meth (e_var rfl) (h.at_.at_ .house) (no_House_go_down ..) a_nil ⟨x, s, rfl, h.at_, hl, fun H' x' g wl f => k H' x' g wl f⟩)
  · have p1 : ¬ p = 1 := by
      have := of_decide_eq_false b
      omega
    refine s_nil ?_
    dsimp only
    refine s_seq (s_dput (v := .bl false) e_c (hf_living T h.at_ (e_var rfl)) (e_var rfl) (h.at_.at_ .living) (by show 4 < sizeLine; decide) ?_)
    have g := h.at_.living hl ⟨h1, h4⟩ false
    have f1 := Fr.set (x' := x) (o := .dK (putK (kv4 fun p => .bl (Ha10.lives s p)) (.inl (p : Int)) (.bl false))) h.at_ .living rfl
    dsimp only
    refine s_seq (s_append (hf_noted T g (e_var rfl)) (e_var rfl) (g.at_ .noted) (by rw [nv_len]; exact szl nl) ?_)
    have en : nv (setp s p ⟨false, (Ha10.proc s p).life⟩).notes ++ [.int (p : Int)] = nv (s.notes ++ [p]) := (nv_app _ [p]).symm
    rw [en]
    have g2 := g.noted (s.notes ++ [p])
    have f2 := Fr.set (x' := x) (o := .lst (nv (s.notes ++ [p]))) g .noted rfl
    dsimp only
    refine s_if (tv_T (e_eqI (e_var rfl) e_c)) (fun b2 => ?_) (fun b2 => ?_)
    · have p2 : p = 2 := by
        have := of_decide_eq_true b2
        omega
      have st : Ha10.dies s p = { Ha10.stopped s p with notes := s.notes ++ [p], waiting := [] } := (if_neg p1).trans (if_pos p2)
      rw [st] at k
      refine s_fldL (l_lst a_nil (by decide)) (fun _ => e_var rfl) (g2.at_ .house) T.cl_House T.na_House_waiting (hF_few ..) fun q H1 hq sm e => ?_
      obtain ⟨g3, f3⟩ := g2.newW hq sm e []
      exact k _ _ g3 rfl (f1.trans (f2.trans f3))
    · have p2 : ¬ p = 2 := by
        have := of_decide_eq_false b2
        omega
      have st : Ha10.dies s p = { Ha10.stopped s p with notes := s.notes ++ [p] } := (if_neg p1).trans (if_neg p2)
      rw [st] at k
      exact k _ _ g2 h.wl (f1.trans f2)
theorem ok_House_keeper_minds (T : Txt K mg d) : FnOk P w K mg base CX0 4 d.f_House_keeper_minds d.fd_House_keeper_minds ["self"] (sp_House_keeper_minds K d) := by
  refine T.F_House_keeper_minds.ok sc_House_keeper_minds (fun vs H Q E h => ?_) (fun cdv A outer sh H vs Q E hr h => ?_)
  · obtain ⟨x, s, n, rfl, h, hn, k⟩ := h
    rfl
  obtain ⟨x, s, n, rfl, h, hn, k⟩ := h
  refine ⟨_, (pss_cons (ps_setLc (i := 1) (own := [("moment", 2)]) (g := gName 2) (tt := (tTest (tOp (rI0 fun i j => .bl (decide (i ≤ j))) (tOp (rI0 fun i j => .int (i - j)) (tFld K (tVar 0) "time") (tVar 2)) (tC (.int (100)))))) (te := (tVar 2)) (by rfl) sc_House_keeper_minds.nd rfl rfl (sw_true rfl rfl rfl (by decide +kernel)) (pi_list (pe_fld (pv 0) rfl)) (blkOk_by (own := [("moment", 2)]) (N := ["self", "counting", "moment"]) (sc := defScope s_House_keeper_minds) (by decide +kernel)) (fun _ _ _ _ _ => pg_name (i := 2) sc_House_keeper_minds.nd rfl (Or.inl rfl)) (fun _ _ _ _ _ => pts_one (pt_cmpR op_le (pe_op op_sub (pe_fld (pv 0) rfl) (pv 2)) (pe_gI (by rfl) T.g_LONGEST_AGO) (nomark _))) (fun _ _ _ _ _ => (pv 2)))
      (pss_cons (ps_expr (pe_bm PySem.F.plainAttrs_list PySem.F.slot_list_append PySem.F.type_list_append mt_append (pv 1) (pa_cons (pe_fld (pv 0) rfl) pa_nil)))
      (pss_cons (ps_if (pt_cmpR op_gt (pe_callB call_len_seq (by rfl) T.z_len PySem.boot_len (pa_cons (pv 1) pa_nil)) (pe_gI (by rfl) T.g_MOST_STARTS) (nomark _)) (pss_cons (ps_expr (pe_meth0 (pv 0) T.cl_House T.m_House_go_down (ok_House_go_down T) (hr.mono (by decide)) T.b_House_go_down .nil pass0))
      (pss_one ps_retN)) pss_nil)
      (pss_cons (ps_expr (pe_meth (pv 0) T.cl_House T.m_House_process_lives (ok_House_process_lives T) (hr.mono (by decide)) T.b_House_process_lives .nil pass0 (pa_cons (pe_bm PySem.F.plainAttrs_list PySem.F.slot_list_pop PySem.F.type_list_pop mt_popAt (pe_fld (pv 0) rfl) (pa_cons pe_int pa_nil)) pa_nil)))
      (pss_one (ps_fld (pv 0) (pv 1) rfl)))))), ?_⟩
  have tl : s.times.length ≤ 100000 := Nat.le_trans h.inv.bd.times h.le
  have nl : s.notes.length ≤ 1000000 := Nat.le_trans h.inv.bd.notes (Nat.le_trans h.le (by decide))
  have hl := h.inv.wf.procs
  obtain ⟨p, r, en⟩ : ∃ p r, s.notes = p :: r := by
    cases e : s.notes with
    | nil => exact absurd e hn
    | cons p r => exact ⟨p, r, rfl⟩
  have p4 := h.inv.wf.notes p (by rw [en]; exact List.mem_cons_self)
  have hc := lc_fm (K := K) (σ := start ["self", "counting", "moment"] [.ref (x.A .house)]) (H := H) (ps := s.times) (vo := fun (t : Nat) => V.int (t : Int)) (f := fun (t : Nat) => V.int (t : Int)) (p := fun t => decide (s.now ≤ t + 100)) (i := 2) (a := x.A .times) (ta := tFld K (tVar 0) "times")
    (t := (tTest (tOp (rI0 fun i j => .bl (decide (i ≤ j))) (tOp (rI0 fun i j => .int (i - j)) (tFld K (tVar 0) "time") (tVar 2)) (tC (.int (100)))))) (te := (tVar 2))
    (hf_times T h.at_ (e_var rfl)) (SqL.of (h.at_.at_ .times)) (by omega) (fun y hy H' sm => ⟨tv_is (tv_T (e_le (e_sub (hf_time T (h.at_.same sm) (e_var rfl)) (e_var rfl)) e_c)) (decide_eq_decide.mpr (by omega)), fun _ => e_var rfl⟩)
  refine s_seq (s_setL hc fun q H1 hq sm e => ?_)
  have h1 := h.at_.same sm
  dsimp only
  refine s_seq (s_append (e_var rfl) (hf_time T h1 (e_var rfl)) e (by rw [List.length_map]; exact Nat.lt_of_le_of_lt (List.length_filter_le _ _) (szl (by omega))) ?_)
  have et : ((s.times.filter fun t => decide (s.now ≤ t + 100)).map fun (t : Nat) => V.int (t : Int)) ++ [.int (s.now : Int)] = nv (s.times.filter (fun t => decide (s.now ≤ t + Ha10.WHILE)) ++ [s.now]) := (nv_app _ [s.now]).symm
  rw [et]
  generalize ets : s.times.filter (fun t => decide (s.now ≤ t + Ha10.WHILE)) ++ [s.now] = ts
  have s2 : Same H (upd H1 q (.lst (nv ts))) := same_mut sm hq
  have h2 := h.at_.same s2
  have e2 : upd H1 q (.lst (nv ts)) q = some (.lst (nv ts)) := upd_same
  have nq : ∀ j, x.A j ≠ q := fun j => h.at_.free hq j
  generalize upd H1 q (.lst (nv ts)) = H2 at s2 h2 e2
  dsimp only
  refine s_seq (s_if (tv_T (e_gt (e_len (e_var rfl) (SqL.of e2)) e_c)) (fun b => ?_) (fun b => ?_))
  · have lt : Ha10.OFTEN < ts.length := by
      have := of_decide_eq_true b
      rw [nv_len] at this
      show 3 < ts.length
      omega
    have st : Ha10.minds s = Ha10.down s := by
      unfold Ha10.minds
      rw [en]
      dsimp only
      rw [ets]
      exact if_pos lt
    rw [st] at k
    exact s_seq (c_meth (e_var rfl) (h2.at_ .house) (no_House_go_down ..) a_nil ⟨x, s, rfl, h2, hl, fun H' x' g wl f => k H' x' g wl ((Fr.same x s2).trans f)⟩)
  · have lt : ¬ Ha10.OFTEN < ts.length := by
      have := of_decide_eq_false b
      rw [nv_len] at this
      show ¬ 3 < ts.length
      omega
    have st : Ha10.minds s = { Ha10.started s p with notes := r, times := ts } := by
      unfold Ha10.minds
      rw [en]
      dsimp only
      rw [ets]
      exact if_neg lt
    rw [st] at k
    refine s_nil ?_
    dsimp only
    have c0 := h2.at_ .noted
    have ecn : cont d x s .noted = .lst (nv (p :: r)) := by rw [← en]; rfl
    rw [ecn] at c0
    refine s_seq (c_methX (e_var rfl) (h2.at_ .house) (no_House_process_lives ..) (a_one (e_pop (hf_noted T h2 (e_var rfl)) e_c c0 (k := 0) (y := .int (p : Int)) rfl rfl (by rw [nv_len]; rw [en] at nl; exact nl) ?_)))
    have g3 := h2.noted r
    have f3 := Fr.set (x' := x) (o := .lst (nv r)) h2 .noted rfl
    have e3 : upd H2 (x.A .noted) (.lst (nv r)) q = some (.lst (nv ts)) := by rw [upd_ne fun z => nq .noted z.symm]; exact e2
    refine ⟨x, _, p, rfl, g3, hl, by omega, p4.2, fun H4 x4 g4 w4 f4 => ?_⟩
    obtain ⟨e4, nq4⟩ := f4.st q _ e3 nq
    dsimp only
    refine s_fld (y := .ref q) (e_var rfl) (e_var (v := .ref (x4.A .house)) (by rw [f4.hs]; rfl)) (g4.at_ .house) T.cl_House T.na_House_times (hF_few ..) ?_
    obtain ⟨g5, f5, hs5⟩ := g4.oldT nq4 e4
    refine k _ _ g5 ?_ ⟨fun b o eb nb => ?_, hs5.trans f4.hs⟩
    · show waitLetters s.book s.waiting = x4.wait.map (·.2)
      rw [w4]
      exact h.wl
    · obtain ⟨k1, k2⟩ := ((Fr.same x s2).trans (f3.trans f4)).st b o eb nb
      exact f5 b o k1 k2 (ne_of_none eb hq)
end
/-! ### a new house -/
def Ed0 (t : TE) (σ : L2.St) (H : Hp) (kvs : List (Key × V)) : Prop := ∀ Q : VK, (∀ p H', H p = none → Same H H' → H' p = some (.dK kvs) → Q (.ref p) H') → t σ H Q
theorem mkClient (a b c e : V) : putF "heard" e (putF "asked" c (putF "waits" b (putF "made" a []))) = fClient a b c e := by
  rw [nw_Client_made, nw_Client_waits, nw_Client_asked, nw_Client_heard]
  rfl
def sp_Client_init (K : PySem.W.Frag) (d : Ad) : Sp := fun vs H Q _ => ∃ (p dx : Addr), vs = [.ref p] ∧ H p = some (.ins d.c_Client dx []) ∧
  ∀ (H' : Hp) (aq hd : Addr), H aq = none → H hd = none → H' p = some (.ins d.c_Client dx (fClient (.int 0) (.bl false) (.ref aq) (.ref hd))) → H' aq = some (.tup (nv [0, 0, 0])) → H' hd = some (.lst []) → (∀ b o, H b = some o → b ≠ p → H' b = some o) → Q .non H'
/-- what is made for the house at a, besides it -/
structure Acc (H0 : Hp) (a : Addr) (H : Hp) (G : List (Addr × HO)) : Prop where
  nd : (G.map (·.1)).Nodup
  na : ∀ q ∈ G, q.1 ≠ a
  at_ : ∀ q ∈ G, H q.1 = some q.2
  old : ∀ b o, H0 b = some o → b ≠ a → H b = some o
  new : ∀ q ∈ G, H0 q.1 = none ∨ q.1 = a
theorem Acc.store {H0 H : Hp} {a : Addr} {G : List (Addr × HO)} (h : Acc H0 a H G) (o : HO) : Acc H0 a (upd H a o) G :=
  ⟨h.nd, h.na, fun q hq => by rw [upd_ne (h.na q hq)]; exact h.at_ q hq, fun b u e hb => by rw [upd_ne hb]; exact h.old b u e hb, h.new⟩
theorem Acc.add {H0 H H' : Hp} {a p : Addr} {o ao : HO} {G : List (Addr × HO)} (h : Acc H0 a H G) (ha : H a = some ao) (hp : H p = none) (sm : Same H H') (e : H' p = some o) : Acc H0 a H' ((p, o) :: G) := by
  have pa : p ≠ a := fun z => by rw [z, ha] at hp; cases hp
  refine ⟨List.nodup_cons.mpr ⟨fun m => ?_, h.nd⟩, fun q hq => ?_, fun q hq => ?_, fun b u e hb => sm _ _ (h.old b u e hb), fun q hq => ?_⟩
  · obtain ⟨q, hq, eq⟩ := List.mem_map.mp m
    have := h.at_ q hq
    rw [eq, hp] at this
    cases this
  · rcases List.mem_cons.mp hq with rfl | k
    · exact pa
    · exact h.na q k
  · rcases List.mem_cons.mp hq with rfl | k
    · exact e
    · exact sm _ _ (h.at_ q k)
  · rcases List.mem_cons.mp hq with rfl | k
    · cases z : H0 p with
      | none => exact .inl rfl
      | some u =>
        have := h.old p u z pa
        rw [hp] at this
        cases this
    · exact h.new q k
section
variable {P : Program} {w : World} {K : PySem.W.Frag} {mg : Str → Option Value} {base : Heap} {d : Ad}
theorem ok_Client_init (T : Txt K mg d) : FnOk P w K mg base CX0 1 d.f_Client_init d.fd_Client_init ["self"] (sp_Client_init K d) := by
  refine T.F_Client_init.ok sc_Client_init (fun vs H Q E h => ?_) (fun cdv A outer sh H vs Q E hr h => ?_)
  · obtain ⟨p, dx, rfl, hp, k⟩ := h
    rfl
  obtain ⟨p, dx, rfl, hp, k⟩ := h
  refine ⟨_, (pss_cons (ps_fld (pv 0) pe_int rfl)
      (pss_cons (ps_fld (pv 0) pe_bl rfl)
      (pss_cons (ps_fld (pv 0) (pe_tup (pa_cons pe_int (pa_cons pe_int (pa_cons pe_int pa_nil)))) rfl)
      (pss_one (ps_fld (pv 0) (pe_lst pa_nil) rfl))))), ?_⟩
  refine s_seq (s_fld (y := .int 0) e_c (e_var rfl) hp T.cl_Client T.na_Client_made (by decide) ?_)
  dsimp only
  refine s_seq (s_fld (y := .bl false) e_c (e_var rfl) upd_same T.cl_Client T.na_Client_waits (by rw [nw_Client_made]; show 1 < 1000; decide) ?_)
  dsimp only
  refine s_seq (s_fldU (xs := nv [0, 0, 0]) (u_tup (a_cons e_c (a_cons e_c (a_cons e_c a_nil))) (by show 3 ≤ sizeLine; decide)) (fun _ => e_var rfl) upd_same T.cl_Client T.na_Client_asked (by rw [nw_Client_made, nw_Client_waits]; show 2 < 1000; decide) fun aq H1 na s1 e1 => ?_)
  dsimp only
  refine s_fldL (l_lst a_nil (by decide)) (fun _ => e_var rfl) upd_same T.cl_Client T.na_Client_heard (by rw [nw_Client_made, nw_Client_waits, nw_Client_asked]; show 3 < 1000; decide) fun hd H2 nh s2 e2 => ?_
  rw [mkClient]
  have npa : p ≠ aq := fun z => by rw [← z, upd_same] at na; cases na
  have nph : p ≠ hd := fun z => by rw [← z, upd_same] at nh; cases nh
  have na0 : H aq = none := by
    rw [upd_ne npa.symm, upd_ne npa.symm] at na
    exact na
  have nh0 : H hd = none := by
    rw [upd_ne nph.symm] at nh
    have := s1.free nh
    rw [upd_ne nph.symm, upd_ne nph.symm] at this
    exact this
  refine k _ aq hd na0 nh0 upd_same ?_ ?_ fun b o e hb => ?_
  · rw [upd_ne npa.symm]
    exact s2 _ _ (by rw [upd_ne npa.symm]; exact e1)
  · rw [upd_ne nph.symm]
    exact e2
  · rw [upd_ne hb]
    exact s2 _ _ (by rw [upd_ne hb]; exact s1 _ _ (by rw [upd_ne hb, upd_ne hb]; exact e))
/-- Client() -/
theorem c_mkClient {σ : L2.St} {H : Hp} {Q : VK} (k : ∀ (H' : Hp) (a dx aq hd : Addr), H a = none → H aq = none → H hd = none → H' a = some (.ins d.c_Client dx (fClient (.int 0) (.bl false) (.ref aq) (.ref hd))) → H' aq = some (.tup (nv [0, 0, 0])) → H' hd = some (.lst []) → Same H H' → Q (.ref a) H') : tMake d.c_Client (sp_Client_init K d) [] E0 tNil σ H Q := by
  intro x dx nx ndx nex
  refine ⟨x, dx, rfl, upd_same, fun H' aq hd na nd e1 e2 e3 kp => ⟨rfl, k H' x dx aq hd nx ?_ ?_ e1 e2 e3 (Same.made nx ndx kp)⟩⟩
  · by_cases e : aq = x
    · rw [e]; exact nx
    · by_cases e' : aq = dx
      · rw [e']; exact ndx
      · rw [upd_ne e, upd_ne e'] at na
        exact na
  · by_cases e : hd = x
    · rw [e]; exact nx
    · by_cases e' : hd = dx
      · rw [e']; exact ndx
      · rw [upd_ne e, upd_ne e'] at nd
        exact nd
end
end Su

namespace Su
open PySem PySem.Spec PyProof.Rows L2
section
variable {H0 H H' : Hp} {a : Addr} {G : List (Addr × HO)}
theorem Acc.get (h : Acc H0 a H G) (k : Nat) {q : Addr × HO} (e : G[k]? = some q) : H q.1 = some q.2 := h.at_ q (List.mem_of_getElem? e)
theorem Acc.nda (h : Acc H0 a H G) : (a :: G.map (·.1)).Nodup := List.nodup_cons.mpr ⟨fun m => by
  obtain ⟨q, hq, e⟩ := List.mem_map.mp m
  exact h.na q hq e, h.nd⟩
theorem Acc.notin (h : Acc H0 a H G) {b : Addr} {o : HO} (e : H0 b = some o) (hb : b ≠ a) : ¬ b ∈ a :: G.map (·.1) := fun m => by
  rcases List.mem_cons.mp m with m | m
  · exact hb m
  · obtain ⟨q, hq, eq⟩ := List.mem_map.mp m
    rcases h.new q hq with n | n
    · rw [eq, e] at n; cases n
    · exact hb (eq.symm.trans n)
theorem Acc.same (h : Acc H0 a H G) (sm : Same H H') : Acc H0 a H' G := ⟨h.nd, h.na, fun q hq => sm _ _ (h.at_ q hq), fun b u e hb => sm _ _ (h.old b u e hb), h.new⟩
theorem Acc.late (h : Acc H0 a H G) {p : Addr} (o : HO) (np : ∀ q ∈ G, q.1 ≠ p) (pa : p ≠ a) (hp : H0 p = none) : Acc H0 a (upd H p o) ((p, o) :: G) := by
  refine ⟨List.nodup_cons.mpr ⟨fun m => ?_, h.nd⟩, fun q hq => ?_, fun q hq => ?_, fun b u e hb => ?_, fun q hq => ?_⟩
  · obtain ⟨q, hq, eq⟩ := List.mem_map.mp m
    exact np q hq eq
  · rcases List.mem_cons.mp hq with rfl | k
    · exact pa
    · exact h.na q k
  · rcases List.mem_cons.mp hq with rfl | k
    · exact upd_same
    · rw [upd_ne (np q k)]
      exact h.at_ q k
  · rw [upd_ne (ne_of_none e hp)]
    exact h.old b u e hb
  · rcases List.mem_cons.mp hq with rfl | k
    · exact .inl hp
    · exact h.new q k
/-- three new ones -/
theorem Acc.add3 (h : Acc H0 a H G) {ao : HO} (ha : H a = some ao) {p1 p2 p3 : Addr} {o1 o2 o3 : HO} (n1 : H p1 = none) (n2 : H p2 = none) (n3 : H p3 = none) (sm : Same H H') (e1 : H' p1 = some o1) (e2 : H' p2 = some o2) (e3 : H' p3 = some o3) (q12 : p1 ≠ p2) (q13 : p1 ≠ p3) (q23 : p2 ≠ p3) :
    Acc H0 a H' ((p1, o1) :: (p2, o2) :: (p3, o3) :: G) := by
  have pa : ∀ {p}, H p = none → p ≠ a := fun hp z => by rw [z, ha] at hp; cases hp
  have pg : ∀ {p}, H p = none → ¬ p ∈ G.map (·.1) := fun hp m => by
    obtain ⟨q, hq, eq⟩ := List.mem_map.mp m
    have := h.at_ q hq
    rw [eq, hp] at this
    cases this
  have pz : ∀ {p}, H p = none → H0 p = none := fun {p} hp => by
    cases z : H0 p with
    | none => rfl
    | some u =>
      have := h.old p u z (pa hp)
      rw [hp] at this
      cases this
  refine ⟨?_, fun q hq => ?_, fun q hq => ?_, fun b u e hb => sm _ _ (h.old b u e hb), fun q hq => ?_⟩
  · show (p1 :: p2 :: p3 :: G.map (·.1)).Nodup
    refine List.nodup_cons.mpr ⟨fun m => ?_, List.nodup_cons.mpr ⟨fun m => ?_, List.nodup_cons.mpr ⟨pg n3, h.nd⟩⟩⟩
    · rcases List.mem_cons.mp m with z | m
      · exact q12 z
      rcases List.mem_cons.mp m with z | m
      · exact q13 z
      exact pg n1 m
    · rcases List.mem_cons.mp m with z | m
      · exact q23 z
      exact pg n2 m
  all_goals
    rcases List.mem_cons.mp hq with rfl | hq
    · first | exact pa n1 | exact e1 | exact .inl (pz n1)
    rcases List.mem_cons.mp hq with rfl | hq
    · first | exact pa n2 | exact e2 | exact .inl (pz n2)
    rcases List.mem_cons.mp hq with rfl | hq
    · first | exact pa n3 | exact e3 | exact .inl (pz n3)
    first | exact h.na q hq | exact sm _ _ (h.at_ q hq) | exact h.new q hq
end
section
variable {K : PySem.W.Frag} {σ : L2.St} {H : Hp} {ta tb : TE} {D : Ends}
theorem d_const {trs : List (TE × TE)} {kvs : List (Key × V)} (h : ∀ (H : Hp) (Q : List (V × V) → Hp → Prop), Q (kvs.map fun kv => (kV kv.1, kv.2)) H → tPairs trs σ H Q) (h15 : kvs.length ≤ 15) (hm : mergeK [] kvs = kvs) : Ed0 (tDisp trs) σ H kvs :=
  fun Q q p hp => h _ _ ⟨upd_same, kvs, rfl, h15, by rw [hm, upd_upd]; exact q p _ hp (same_new hp) upd_same⟩
theorem p_cons {tk tv : TE} {trs : List (TE × TE)} {x : V} {Q : List (V × V) → Hp → Prop} (h : Ev0 tk σ H x) (k : tv σ H fun y H2 => tPairs trs σ H2 fun ps H3 => Q ((x, y) :: ps) H3) : tPairs ((tk, tv) :: trs) σ H Q := h _ k
theorem p_nil {Q : List (V × V) → Hp → Prop} (h : Q [] H) : tPairs [] σ H Q := h
theorem s_fldD {a C dx : Addr} {fs : List (Str × V)} {f : Str} {kvs : List (Key × V)} (hv : Ed0 tb σ H kvs) (ho : ∀ H', Ev0 ta σ H' (.ref a)) (ha : H a = some (.ins C dx fs)) (c : Cls K C) (n : NoAttr K C f) (hf : fs.length < 1000)
    (k : ∀ p H', H p = none → Same H H' → H' p = some (.dK kvs) → D.nx σ (upd H' a (.ins C dx (putF f (.ref p) fs)))) : sFld K ta tb f D σ H :=
  hv _ fun p H' hp sm e => ho H' _ ⟨a, C, dx, fs, rfl, sm _ _ ha, c, n, hf, k p H' hp sm e⟩
end
/-- where each of the house's own objects stands among what was made -/
def idx : Slot → Nat
  | .house => 0 | .letters => 1 | .times => 2 | .noted => 3 | .waiting => 4 | .disk => 5 | .dacc => 6 | .ddone => 7 | .book => 8 | .bacc => 9 | .bdone => 10 | .clients => 11
  | .cl i => 12 + 3 * (2 - i.val)
  | .hd i => 14 + 3 * (2 - i.val)
  | .lives => 21 | .living => 22
def unidx : Nat → Slot
  | 0 => .house | 1 => .letters | 2 => .times | 3 => .noted | 4 => .waiting | 5 => .disk | 6 => .dacc | 7 => .ddone | 8 => .book | 9 => .bacc | 10 => .bdone | 11 => .clients
  | 12 => .cl 2 | 14 => .hd 2 | 15 => .cl 1 | 17 => .hd 1 | 18 => .cl 0 | 20 => .hd 0
  | 21 => .lives | _ => .living
theorem unidx_idx (i : Slot) : unidx (idx i) = i := by
  cases i with
  | cl i => match i with | 0 => rfl | 1 => rfl | 2 => rfl
  | hd i => match i with | 0 => rfl | 1 => rfl | 2 => rfl
  | _ => rfl
theorem idx_lt (i : Slot) : idx i < 23 := by
  cases i with
  | cl i => unfold idx; dsimp only; omega
  | hd i => unfold idx; dsimp only; omega
  | _ => decide
def sp_House_init (K : PySem.W.Frag) (d : Ad) : Sp := fun vs H Q _ => ∃ (p dx : Addr), vs = [.ref p] ∧ H p = some (.ins d.c_House dx []) ∧
  ∀ (H' : Hp) (x : Dec), x.A .house = p → HAt d H' x Ha10.init → WL x Ha10.init → (∀ b o, H b = some o → b ≠ p → H' b = some o ∧ ∀ i, x.A i ≠ b) → Q .non H'
section
variable {P : Program} {w : World} {K : PySem.W.Frag} {mg : Str → Option Value} {base : Heap} {d : Ad}
theorem ok_House_init (T : Txt K mg d) : FnOk P w K mg base CX0 3 d.f_House_init d.fd_House_init ["self"] (sp_House_init K d) := by
  refine T.F_House_init.ok sc_House_init (fun vs H Q E h => ?_) (fun cdv A outer sh H vs Q E hr h => ?_)
  · obtain ⟨p, dx, rfl, hp, k⟩ := h
    rfl
  obtain ⟨p, dx, rfl, hp, k⟩ := h
  refine ⟨_, (pss_cons (ps_fld (pv 0) pe_int rfl)
      (pss_cons (ps_fld (pv 0) (pe_disp (pps_cons pe_int pe_bl (pps_cons pe_int pe_bl (pps_cons pe_int pe_bl (pps_cons pe_int pe_bl pps_nil)))) (by rfl) (by rfl) (fun z => by cases z) (by decide)) rfl)
      (pss_cons (ps_fld (pv 0) (pe_disp (pps_cons pe_int pe_int (pps_cons pe_int pe_int (pps_cons pe_int pe_int (pps_cons pe_int pe_int pps_nil)))) (by rfl) (by rfl) (fun z => by cases z) (by decide)) rfl)
      (pss_cons (ps_fld (pv 0) (pe_disp (pps_cons pe_int (pe_make0 T.mk_Client (ok_Client_init T) (hr.mono (by decide)) (by rfl) T.gc_Client T.b_Client_init .nil pass0) (pps_cons pe_int (pe_make0 T.mk_Client (ok_Client_init T) (hr.mono (by decide)) (by rfl) T.gc_Client T.b_Client_init .nil pass0) (pps_cons pe_int (pe_make0 T.mk_Client (ok_Client_init T) (hr.mono (by decide)) (by rfl) T.gc_Client T.b_Client_init .nil pass0) pps_nil))) (by rfl) (by rfl) (fun z => by cases z) (by decide)) rfl)
      (pss_cons (ps_fld (pv 0) (pe_make0 T.mk_Book (ok_Book_init T) (hr.mono (by decide)) (by rfl) T.gc_Book T.b_Book_init .nil pass0) rfl)
      (pss_cons (ps_fld (pv 0) (pe_make0 T.mk_Book (ok_Book_init T) (hr.mono (by decide)) (by rfl) T.gc_Book T.b_Book_init .nil pass0) rfl)
      (pss_cons (ps_fld (pv 0) (pe_lst pa_nil) rfl)
      (pss_cons (ps_fld (pv 0) (pe_lst pa_nil) rfl)
      (pss_cons (ps_fld (pv 0) (pe_lst pa_nil) rfl)
      (pss_one (ps_fld (pv 0) (pe_lst pa_nil) rfl))))))))))), ?_⟩
  have A0 : Acc H p H [] := ⟨List.nodup_nil, fun q hq => absurd hq List.not_mem_nil, fun q hq => absurd hq List.not_mem_nil, fun b o e _ => e, fun q hq => absurd hq List.not_mem_nil⟩
  refine s_seq (s_fld (y := .int 0) e_c (e_var rfl) hp T.cl_House T.na_House_time (by decide) ?_)
  rw [nw_House_time]
  dsimp only
  have A1 := A0.store (.ins d.c_House dx [("time", .int 0)])
  refine s_seq (s_fldD (kvs := kv4 fun _ => .bl false) (d_const (fun _ _ q => q) (by decide) rfl) (fun _ => e_var rfl) upd_same T.cl_House T.na_House_living (by show 1 < 1000; decide) fun p1 H1 n1 s1 e1 => ?_)
  rw [nw_House_living]
  dsimp only
  have A2 := (A1.add upd_same n1 s1 e1).store (.ins d.c_House dx [("time", .int 0), ("living", .ref p1)])
  refine s_seq (s_fldD (kvs := kv4 fun _ => .int 0) (d_const (fun _ _ q => q) (by decide) rfl) (fun _ => e_var rfl) upd_same T.cl_House T.na_House_lives (by show 2 < 1000; decide) fun p2 H2 n2 s2 e2 => ?_)
  rw [nw_House_lives]
  dsimp only
  have A3 := (A2.add upd_same n2 s2 e2).store (.ins d.c_House dx [("time", .int 0), ("living", .ref p1), ("lives", .ref p2)])
  generalize hH3 : upd H2 p (.ins d.c_House dx [("time", .int 0), ("living", .ref p1), ("lives", .ref p2)]) = H3 at A3
  have a3 : H3 p = some (.ins d.c_House dx [("time", .int 0), ("living", .ref p1), ("lives", .ref p2)]) := by rw [← hH3]; exact upd_same
  refine s_seq (fun p3 n3 => p_cons e_c (c_mkClient fun K1 c1 x1 q1 h1 nc1 nq1 nh1 ec1 eq1 eh1 t1 => p_cons e_c (c_mkClient fun K2 c2 x2 q2 h2 nc2 nq2 nh2 ec2 eq2 eh2 t2 => p_cons e_c (c_mkClient fun K3 c3 x3 q3 h3 nc3 nq3 nh3 ec3 eq3 eh3 t3 => p_nil ⟨t3 _ _ (t2 _ _ (t1 _ _ upd_same)), [(.inl 1, .ref c1), (.inl 2, .ref c2), (.inl 3, .ref c3)], rfl, by show 3 ≤ 15; decide, ?_⟩))))
  have em : mergeK [] [((.inl 1 : Key), V.ref c1), (.inl 2, .ref c2), (.inl 3, .ref c3)] = [(.inl 1, .ref c1), (.inl 2, .ref c2), (.inl 3, .ref c3)] := rfl
  rw [em]
  have p3a : p3 ≠ p := fun z => by rw [z, a3] at n3; cases n3
  have B0 := A3.same (same_new (o := .dK []) n3)
  have b0 : upd H3 p3 (.dK []) p = some _ := (upd_ne p3a.symm).trans a3
  have B1 := B0.add3 b0 nc1 nq1 nh1 t1 ec1 eq1 eh1 (ne_of ec1 eq1 (by intro z; cases z)) (ne_of ec1 eh1 (by intro z; cases z)) (ne_of eq1 eh1 (by intro z; cases z))
  have b1 := t1 _ _ b0
  have B2 := B1.add3 b1 nc2 nq2 nh2 t2 ec2 eq2 eh2 (ne_of ec2 eq2 (by intro z; cases z)) (ne_of ec2 eh2 (by intro z; cases z)) (ne_of eq2 eh2 (by intro z; cases z))
  have b2 := t2 _ _ b1
  have B3 := B2.add3 b2 nc3 nq3 nh3 t3 ec3 eq3 eh3 (ne_of ec3 eq3 (by intro z; cases z)) (ne_of ec3 eh3 (by intro z; cases z)) (ne_of eq3 eh3 (by intro z; cases z))
  have b3 := t3 _ _ b2
  have f0 : upd H3 p3 (.dK []) p3 = some (.dK []) := upd_same
  have f1 := t1 _ _ f0
  have f2 := t2 _ _ f1
  have nG : ∀ q ∈ ((c3, HO.ins d.c_Client x3 (fClient (.int 0) (.bl false) (.ref q3) (.ref h3))) :: (q3, .tup (nv [0, 0, 0])) :: (h3, .lst []) :: (c2, .ins d.c_Client x2 (fClient (.int 0) (.bl false) (.ref q2) (.ref h2))) :: (q2, .tup (nv [0, 0, 0])) :: (h2, .lst []) :: (c1, .ins d.c_Client x1 (fClient (.int 0) (.bl false) (.ref q1) (.ref h1))) :: (q1, .tup (nv [0, 0, 0])) :: (h1, .lst []) :: [(p2, .dK (kv4 fun _ => .int 0)), (p1, .dK (kv4 fun _ => .bl false))] : List (Addr × HO)), q.1 ≠ p3 := by
    intro q hq
    have ne : ∀ {H : Hp} {b : Addr}, H p3 = some (.dK []) → H b = none → b ≠ p3 := fun h1 h2 z => by rw [z, h1] at h2; cases h2
    simp only [List.mem_cons, List.not_mem_nil, or_false] at hq
    rcases hq with rfl | rfl | rfl | rfl | rfl | rfl | rfl | rfl | rfl | rfl | rfl
    · exact ne f2 nc3
    · exact ne f2 nq3
    · exact ne f2 nh3
    · exact ne f1 nc2
    · exact ne f1 nq2
    · exact ne f1 nh2
    · exact ne f0 nc1
    · exact ne f0 nq1
    · exact ne f0 nh1
    · exact ne_of_none (A3.get 0 rfl) n3
    · exact ne_of_none (A3.get 1 rfl) n3
  have n30 : H p3 = none := by
    cases z : H p3 with
    | none => rfl
    | some u =>
      have := A3.old p3 u z p3a
      rw [n3] at this
      cases this
  have A4 := B3.late (.dK [(.inl 1, .ref c1), (.inl 2, .ref c2), (.inl 3, .ref c3)]) nG p3a n30
  have a4 : upd K3 p3 (.dK [(.inl 1, .ref c1), (.inl 2, .ref c2), (.inl 3, .ref c3)]) p = some _ := (upd_ne p3a.symm).trans b3
  generalize upd K3 p3 (.dK [(.inl 1, .ref c1), (.inl 2, .ref c2), (.inl 3, .ref c3)]) = H4 at A4 a4
  refine e_var (v := .ref p) rfl _ ⟨_, _, _, _, rfl, a4, T.cl_House, T.na_House_clients, by show 3 < 1000; decide, ?_⟩
  rw [nw_House_clients]
  dsimp only
  have A5 := A4.store (.ins d.c_House dx [("time", .int 0), ("living", .ref p1), ("lives", .ref p2), ("clients", .ref p3)])
  refine s_seq (c_mkBook fun H5 ba bc bn nba nbc nbn B5 s5 => ?_)
  obtain ⟨bx, eb⟩ := B5.ob
  refine e_var (v := .ref p) rfl _ ⟨_, _, _, _, rfl, s5 _ _ upd_same, T.cl_House, T.na_House_book, by show 4 < 1000; decide, ?_⟩
  rw [nw_House_book]
  dsimp only
  have A6 := (A5.add3 upd_same nba nbc nbn s5 eb B5.ac B5.dl (ne_of eb B5.ac (by intro z; cases z)) (ne_of eb B5.dl (by intro z; cases z)) B5.ne).store (.ins d.c_House dx [("time", .int 0), ("living", .ref p1), ("lives", .ref p2), ("clients", .ref p3), ("book", .ref ba)])
  refine s_seq (c_mkBook fun H6 da dc dn nda ndc ndn B6 s6 => ?_)
  obtain ⟨ex, ed⟩ := B6.ob
  refine e_var (v := .ref p) rfl _ ⟨_, _, _, _, rfl, s6 _ _ upd_same, T.cl_House, T.na_House_disk, by show 5 < 1000; decide, ?_⟩
  rw [nw_House_disk]
  dsimp only
  have A7 := (A6.add3 upd_same nda ndc ndn s6 ed B6.ac B6.dl (ne_of ed B6.ac (by intro z; cases z)) (ne_of ed B6.dl (by intro z; cases z)) B6.ne).store (.ins d.c_House dx [("time", .int 0), ("living", .ref p1), ("lives", .ref p2), ("clients", .ref p3), ("book", .ref ba), ("disk", .ref da)])
  refine s_seq (s_fldL (l_lst a_nil (by decide)) (fun _ => e_var rfl) upd_same T.cl_House T.na_House_waiting (by show 6 < 1000; decide) fun p7 H7 n7 s7 e7 => ?_)
  rw [nw_House_waiting]
  dsimp only
  have A8 := (A7.add upd_same n7 s7 e7).store (.ins d.c_House dx [("time", .int 0), ("living", .ref p1), ("lives", .ref p2), ("clients", .ref p3), ("book", .ref ba), ("disk", .ref da), ("waiting", .ref p7)])
  refine s_seq (s_fldL (l_lst a_nil (by decide)) (fun _ => e_var rfl) upd_same T.cl_House T.na_House_noted (by show 7 < 1000; decide) fun p8 H8 n8 s8 e8 => ?_)
  rw [nw_House_noted]
  dsimp only
  have A9 := (A8.add upd_same n8 s8 e8).store (.ins d.c_House dx [("time", .int 0), ("living", .ref p1), ("lives", .ref p2), ("clients", .ref p3), ("book", .ref ba), ("disk", .ref da), ("waiting", .ref p7), ("noted", .ref p8)])
  refine s_seq (s_fldL (l_lst a_nil (by decide)) (fun _ => e_var rfl) upd_same T.cl_House T.na_House_times (by show 8 < 1000; decide) fun p9 H9 n9 s9 e9 => ?_)
  rw [nw_House_times]
  dsimp only
  have A10 := (A9.add upd_same n9 s9 e9).store (.ins d.c_House dx [("time", .int 0), ("living", .ref p1), ("lives", .ref p2), ("clients", .ref p3), ("book", .ref ba), ("disk", .ref da), ("waiting", .ref p7), ("noted", .ref p8), ("times", .ref p9)])
  refine s_fldL (l_lst a_nil (by decide)) (fun _ => e_var rfl) upd_same T.cl_House T.na_House_letters (by show 9 < 1000; decide) fun p10 H10 n10 s10 e10 => ?_
  rw [nw_House_letters]
  have A11 := (A10.add upd_same n10 s10 e10).store (.ins d.c_House dx (fHouse (.int 0) (.ref p1) (.ref p2) (.ref p3) (.ref ba) (.ref da) (.ref p7) (.ref p8) (.ref p9) (.ref p10)))
  have eL : ∃ x : Dec, x.A = (fun i => ([p, p10, p9, p8, p7, da, dc, dn, ba, bc, bn, p3, c3, q3, h3, c2, q2, h2, c1, q1, h1, p2, p1] : List Addr).getD (idx i) p) ∧ x.dx .house = dx ∧ x.dx .book = bx ∧ x.dx .disk = ex ∧ x.dx (.cl 0) = x1 ∧ x.dx (.cl 1) = x2 ∧ x.dx (.cl 2) = x3 ∧ x.air = [] ∧ x.wait = [] ∧ x.bd = [] ∧ x.dd = [] ∧ x.aq 0 = q1 ∧ x.aq 1 = q2 ∧ x.aq 2 = q3 ∧ x.ak = fun _ => ⟨0, 0, 0⟩ :=
    ⟨{ A := fun i => ([p, p10, p9, p8, p7, da, dc, dn, ba, bc, bn, p3, c3, q3, h3, c2, q2, h2, c1, q1, h1, p2, p1] : List Addr).getD (idx i) p, dx := fun i => match i with | .house => dx | .book => bx | .disk => ex | .cl i => (match i with | 0 => x1 | 1 => x2 | 2 => x3) | _ => dx, air := [], wait := [], bd := [], dd := [], aq := fun i => match i with | 0 => q1 | 1 => q2 | 2 => q3, ak := fun _ => ⟨0, 0, 0⟩ }, rfl, rfl, rfl, rfl, rfl, rfl, rfl, rfl, rfl, rfl, rfl, rfl, rfl, rfl, rfl⟩
  obtain ⟨x, eA, ex0, exb, exd, exc1, exc2, exc3, eair, ewait, ebd, edd, eaq1, eaq2, eaq3, eak⟩ := eL
  have nd : ([p, p10, p9, p8, p7, da, dc, dn, ba, bc, bn, p3, c3, q3, h3, c2, q2, h2, c1, q1, h1, p2, p1] : List Addr).Nodup := A11.nda
  have gA : ∀ i, ([p, p10, p9, p8, p7, da, dc, dn, ba, bc, bn, p3, c3, q3, h3, c2, q2, h2, c1, q1, h1, p2, p1] : List Addr)[idx i]? = some (x.A i) := fun i => by
    rw [eA]
    dsimp only
    rw [List.getD_eq_getElem?_getD, List.getElem?_eq_getElem (idx_lt i)]
    rfl
  refine k _ x (by rw [eA]; rfl) ⟨fun i j e => ?_, fun i => ?_, ?_⟩ ?_ fun b o e hb => ⟨A11.old b o e hb, fun i z => ?_⟩
  · have g1 := gA i
    rw [e] at g1
    have := nd_ix nd g1 (gA j)
    rw [← unidx_idx i, this, unidx_idx]
  · cases i with
    | house =>
      show _ = some (HO.ins d.c_House (x.dx .house) (hFields x.A 0))
      rw [ex0, eA]
      exact upd_same
    | living => rw [eA]; exact A11.get 21 rfl
    | lives => rw [eA]; exact A11.get 20 rfl
    | clients =>
      show _ = some (HO.dK [(.inl 1, .ref (x.A (.cl 0))), (.inl 2, .ref (x.A (.cl 1))), (.inl 3, .ref (x.A (.cl 2)))])
      rw [eA]
      exact A11.get 10 rfl
    | book =>
      show _ = some (HO.ins d.c_Book (x.dx .book) (fBook (.ref (x.A .bacc)) (.ref (x.A .bdone))))
      rw [exb, eA]
      exact A11.get 7 rfl
    | bacc => rw [eA]; exact A11.get 8 rfl
    | bdone =>
      show _ = some (HO.lst (refs x.bd))
      rw [ebd, eA]
      exact A11.get 9 rfl
    | disk =>
      show _ = some (HO.ins d.c_Book (x.dx .disk) (fBook (.ref (x.A .dacc)) (.ref (x.A .ddone))))
      rw [exd, eA]
      exact A11.get 4 rfl
    | dacc => rw [eA]; exact A11.get 5 rfl
    | ddone =>
      show _ = some (HO.lst (refs x.dd))
      rw [edd, eA]
      exact A11.get 6 rfl
    | waiting =>
      show _ = some (HO.lst (refs x.wait))
      rw [ewait, eA]
      exact A11.get 3 rfl
    | noted => rw [eA]; exact A11.get 2 rfl
    | times => rw [eA]; exact A11.get 1 rfl
    | letters =>
      show _ = some (HO.lst (refs x.air))
      rw [eair, eA]
      exact A11.get 0 rfl
    | cl i =>
      rw [cont_cl]
      match i with
      | 0 => rw [exc1, eaq1, eA]; exact A11.get 17 rfl
      | 1 => rw [exc2, eaq2, eA]; exact A11.get 14 rfl
      | 2 => rw [exc3, eaq3, eA]; exact A11.get 11 rfl
    | hd i =>
      rw [cont_hd]
      match i with
      | 0 => rw [eA]; exact A11.get 19 rfl
      | 1 => rw [eA]; exact A11.get 16 rfl
      | 2 => rw [eA]; exact A11.get 13 rfl
  · refine ⟨by rw [eair]; rfl, by rw [eair]; exact fun q hq => absurd hq List.not_mem_nil, by rw [ewait]; exact fun q hq => absurd hq List.not_mem_nil, by rw [ebd]; rfl, by rw [ebd]; exact fun q hq => absurd hq List.not_mem_nil, by rw [edd]; rfl, by rw [edd]; exact fun q hq => absurd hq List.not_mem_nil, fun i => ?_, fun i hi => ?_⟩
    · rw [eak]
      match i with
      | 0 => rw [eaq1]; exact A11.get 18 rfl
      | 1 => rw [eaq2]; exact A11.get 15 rfl
      | 2 => rw [eaq3]; exact A11.get 12 rfl
    · exfalso
      match i, hi with
      | 0, hi => cases hi
      | 1, hi => cases hi
      | 2, hi => cases hi
  · unfold WL
    rw [ewait]
    rfl
  · have g := gA i
    rw [z] at g
    exact A11.notin e hb (List.mem_of_getElem? g)
end
end Su

namespace Su
open PySem PySem.Spec PyProof.Rows L2
/-! ### a call from its numbers -/
theorem in_0 {ns : List Nat} {c : Ha10.Call} (h : Ha10Neutral.callIn [0 :: ns] = some c) : ns = [] ∧ c = .begin_ := by
  match ns, h with
  | [], h => exact ⟨rfl, (Option.some.inj h).symm⟩
  | _ :: _, h => cases h
theorem in_1 {ns : List Nat} {c : Ha10.Call} (h : Ha10Neutral.callIn [1 :: ns] = some c) : ∃ a0 a1 a2 a3 a4 : Nat, ns = [a0, a1, a2, a3, a4] ∧ c = .ask a0 a1 a2 a3 a4 := by
  match ns, h with
  | [a0, a1, a2, a3, a4], h => exact ⟨a0, a1, a2, a3, a4, rfl, (Option.some.inj h).symm⟩
  | [], h => cases h
  | [_], h => cases h
  | [_, _], h => cases h
  | [_, _, _], h => cases h
  | [_, _, _, _], h => cases h
  | _ :: _ :: _ :: _ :: _ :: _ :: _, h => cases h
theorem in_2 {ns : List Nat} {c : Ha10.Call} (h : Ha10Neutral.callIn [2 :: ns] = some c) : ∃ a0 a1 : Nat, ns = [a0, a1] ∧ c = .again a0 a1 := by
  match ns, h with
  | [a0, a1], h => exact ⟨a0, a1, rfl, (Option.some.inj h).symm⟩
  | [], h => cases h
  | [_], h => cases h
  | _ :: _ :: _ :: _, h => cases h
theorem in_3 {ns : List Nat} {c : Ha10.Call} (h : Ha10Neutral.callIn [3 :: ns] = some c) : ∃ a0 : Nat, ns = [a0] ∧ c = .take a0 := by
  match ns, h with
  | [a0], h => exact ⟨a0, rfl, (Option.some.inj h).symm⟩
  | [], h => cases h
  | _ :: _ :: _, h => cases h
theorem in_4 {ns : List Nat} {c : Ha10.Call} (h : Ha10Neutral.callIn [4 :: ns] = some c) : ∃ a0 : Nat, ns = [a0] ∧ c = .keep a0 := by
  match ns, h with
  | [a0], h => exact ⟨a0, rfl, (Option.some.inj h).symm⟩
  | [], h => cases h
  | _ :: _ :: _, h => cases h
theorem in_5 {ns : List Nat} {c : Ha10.Call} (h : Ha10Neutral.callIn [5 :: ns] = some c) : ∃ a0 : Nat, ns = [a0] ∧ c = .lose a0 := by
  match ns, h with
  | [a0], h => exact ⟨a0, rfl, (Option.some.inj h).symm⟩
  | [], h => cases h
  | _ :: _ :: _, h => cases h
theorem in_6 {ns : List Nat} {c : Ha10.Call} (h : Ha10Neutral.callIn [6 :: ns] = some c) : ns = [] ∧ c = .save := by
  match ns, h with
  | [], h => exact ⟨rfl, (Option.some.inj h).symm⟩
  | _ :: _, h => cases h
theorem in_7 {ns : List Nat} {c : Ha10.Call} (h : Ha10Neutral.callIn [7 :: ns] = some c) : ∃ a0 : Nat, ns = [a0] ∧ c = .kill a0 := by
  match ns, h with
  | [a0], h => exact ⟨a0, rfl, (Option.some.inj h).symm⟩
  | [], h => cases h
  | _ :: _ :: _, h => cases h
theorem in_8 {ns : List Nat} {c : Ha10.Call} (h : Ha10Neutral.callIn [8 :: ns] = some c) : ns = [] ∧ c = .mind := by
  match ns, h with
  | [], h => exact ⟨rfl, (Option.some.inj h).symm⟩
  | _ :: _, h => cases h
theorem in_9 {ns : List Nat} {c : Ha10.Call} (h : Ha10Neutral.callIn [9 :: ns] = some c) : ∃ a0 : Nat, ns = [a0] ∧ c = .ticks a0 := by
  match ns, h with
  | [a0], h => exact ⟨a0, rfl, (Option.some.inj h).symm⟩
  | [], h => cases h
  | _ :: _ :: _, h => cases h
theorem in_10 {ns : List Nat} {c : Ha10.Call} (h : Ha10Neutral.callIn [10 :: ns] = some c) : ∃ a0 : Nat, ns = [a0] ∧ c = .turns a0 := by
  match ns, h with
  | [a0], h => exact ⟨a0, rfl, (Option.some.inj h).symm⟩
  | [], h => cases h
  | _ :: _ :: _, h => cases h
theorem in_11 {ns : List Nat} {c : Ha10.Call} (h : Ha10Neutral.callIn [11 :: ns] = some c) : ∃ a0 : Nat, ns = [a0] ∧ c = .client a0 := by
  match ns, h with
  | [a0], h => exact ⟨a0, rfl, (Option.some.inj h).symm⟩
  | [], h => cases h
  | _ :: _ :: _, h => cases h
theorem in_12 {ns : List Nat} {c : Ha10.Call} (h : Ha10Neutral.callIn [12 :: ns] = some c) : ns = [] ∧ c = .book := by
  match ns, h with
  | [], h => exact ⟨rfl, (Option.some.inj h).symm⟩
  | _ :: _, h => cases h
theorem in_13 {ns : List Nat} {c : Ha10.Call} (h : Ha10Neutral.callIn [13 :: ns] = some c) : ns = [] ∧ c = .disk := by
  match ns, h with
  | [], h => exact ⟨rfl, (Option.some.inj h).symm⟩
  | _ :: _, h => cases h
theorem in_14 {ns : List Nat} {c : Ha10.Call} (h : Ha10Neutral.callIn [14 :: ns] = some c) : ∃ a0 : Nat, ns = [a0] ∧ c = .process a0 := by
  match ns, h with
  | [a0], h => exact ⟨a0, rfl, (Option.some.inj h).symm⟩
  | [], h => cases h
  | _ :: _ :: _, h => cases h
theorem in_15 {ns : List Nat} {c : Ha10.Call} (h : Ha10Neutral.callIn [15 :: ns] = some c) : ns = [] ∧ c = .notes := by
  match ns, h with
  | [], h => exact ⟨rfl, (Option.some.inj h).symm⟩
  | _ :: _, h => cases h
theorem in_16 {ns : List Nat} {c : Ha10.Call} (h : Ha10Neutral.callIn [16 :: ns] = some c) : ns = [] ∧ c = .air := by
  match ns, h with
  | [], h => exact ⟨rfl, (Option.some.inj h).symm⟩
  | _ :: _, h => cases h
/-- what every call's def promises: the answer as a new list, the house as the call leaves it -/
def spEnd (d : Ad) (H : Hp) (x : Dec) (s' : Ha10.St) (ans : List Int) (Q : VK) : Prop :=
  ∀ (H' : Hp) (x' : Dec) (r : Addr), HAt d H' x' s' → WL x' s' → Fr H x H' x' → H' r = some (.lst (ans.map V.int)) → (∀ i, x'.A i ≠ r) → (∀ b o, H b = some o → (∀ i, x.A i ≠ b) → b ≠ r) → Q (.ref r) H'
def spCall (N : Nat) (K : PySem.W.Frag) (d : Ad) : Sp := fun vs H Q _ => ∃ (x : Dec) (s : Ha10.St) (n : Nat) (l : Addr) (ns : List Nat) (c : Ha10.Call), vs = [.ref (x.A .house), .ref l] ∧ Hs d H x s n ∧ H l = some (.lst (nv ns)) ∧ (n ≤ 20000 ∧ ∀ i, x.A i ≠ l) ∧ Ha10Neutral.callIn [N :: ns] = some c ∧
  spEnd d H x (Ha10.step s c).1 (Ha10.step s c).2 Q
theorem nv_ints (l : List Nat) : (Ha10.ints l).map V.int = nv l := List.map_map ..
section
variable {K : PySem.W.Frag} {mg : Str → Option Value} {d : Ad} {σ : L2.St} {H H1 : Hp} {x x1 : Dec} {s s1 : Ha10.St} {te tb ta : TE} {D : Ends}
/-- return [..] -/
theorem fin {rs : List V} {ans : List Int} {s2 : Ha10.St} (f : Fr H x H1 x1) (h1 : HAt d H1 x1 s1) (wl : WL x1 s1) (hv : El0 te σ H1 rs) (e : rs = ans.map V.int) (es : s1 = s2) (k : spEnd d H x s2 ans D.rt) : tRet te D σ H1 := by
  subst es
  subst e
  exact s_retL hv fun r H' hr sm er => k H' x1 r (h1.same sm) wl (f.trans (Fr.same x1 sm)) er (fun i => h1.free hr i) (fun b o eb nb z => by
    have := (f.st b o eb nb).1
    rw [z, hr] at this
    cases this)
theorem e_full (h : HAt d H x s) (hv : Ev0 te σ H (.ref (x.A .house))) : Ev0 (tMeth d.c_House "is_full" (sp_House_is_full K d) [] E0 te tNil) σ H (.bl (decide (60 ≤ s.air.length))) :=
  fun Q q => c_meth hv (h.at_ .house) (no_House_is_full ..) a_nil ⟨x, s, rfl, h, q⟩
theorem e_has (h : HAt d H x s) {k : Nat} (hv : Ev0 te σ H (.ref (x.A .house))) (hk : Ev0 tb σ H (.int (k : Int))) : Ev0 (tMeth d.c_House "has_letter" (sp_House_has_letter K d) [] E0 te (tCons tb tNil)) σ H (.bl (decide (1 ≤ k) && decide (k ≤ s.air.length))) :=
  fun Q q => c_meth hv (h.at_ .house) (no_House_has_letter ..) (a_cons hk a_nil) ⟨x, s, k, rfl, h, q⟩
theorem u_tuple {xs : List V} (h : El0 te σ H xs) : Eu0 (tCB (fun xs H Q => ∃ p ys, xs = [.ref p] ∧ ((SqL K H p ys ∧ ∀ l, H l = none → Q (.ref l) (upd H l (.tup ys))) ∨ (SqT K H p ys ∧ Q (.ref p) H))) (tCons te tNil)) σ H xs :=
  fun Q q => h _ fun p H' hp sm e => ⟨p, xs, rfl, .inl ⟨SqL.of e, fun l hl => q l _ (sm.free hl) (sm.trans (same_new hl)) upd_same⟩⟩
theorem cl_in (a b e : V) (c : Nat) : (valV [((.inl 1 : Key), a), (.inl 2, b), (.inl 3, e)] (.inl (c : Int))).isSome = Ha10.isClient c := by
  match c with
  | 0 => rfl
  | 1 => rfl
  | 2 => rfl
  | 3 => rfl
  | n + 4 =>
    have h1 : ¬ ((.inl 1 : Key) = .inl ((n + 4 : Nat) : Int)) := fun z => by have := Sum.inl.inj z; omega
    have h2 : ¬ ((.inl 2 : Key) = .inl ((n + 4 : Nat) : Int)) := fun z => by have := Sum.inl.inj z; omega
    have h3 : ¬ ((.inl 3 : Key) = .inl ((n + 4 : Nat) : Int)) := fun z => by have := Sum.inl.inj z; omega
    rw [valV_neg h1, valV_neg h2, valV_neg h3, valV_nil]
    unfold Ha10.isClient
    simp
theorem sv_in (sv : Nat) : inV (.int (sv : Int)) [.int 3, .int 4] = Ha10.isServer sv := by
  unfold inV Ha10.isServer
  rw [Bool.eq_iff_iff]
  simp only [List.any_cons, List.any_nil, eqV, Bool.or_false, Bool.or_eq_true, beq_iff_eq]
  omega
theorem pr_in (p : Nat) : inV (.int (p : Int)) [.int 1, .int 2, .int 3, .int 4] = decide (1 ≤ p ∧ p ≤ 4) := by
  unfold inV
  rw [Bool.eq_iff_iff]
  simp only [List.any_cons, List.any_nil, eqV, Bool.or_false, Bool.or_eq_true, beq_iff_eq, decide_eq_true_eq]
  omega
theorem isC {c : Nat} (h : Ha10.isClient c = true) : CliOK c := by
  unfold Ha10.isClient at h
  simpa [CliOK] using h
theorem isS {c : Nat} (h : Ha10.isServer c = true) : SrvOK c := by
  unfold Ha10.isServer at h
  simpa [SrvOK] using h
theorem setC2 (s : Ha10.St) (c : Nat) (x y : Ha10.Client) : Ha10.setClient (Ha10.setClient s c x) c y = Ha10.setClient s c y := by
  unfold Ha10.setClient
  simp only [List.set_set]
theorem setC3 {s : Ha10.St} (h : s.clients.length = 3) (c : Nat) (x : Ha10.Client) : (Ha10.setClient s c x).clients.length = 3 := (List.length_set ..).trans h
end

def sp_begin (K : PySem.W.Frag) (d : Ad) : Sp := spCall 0 K d
def sp_ask (K : PySem.W.Frag) (d : Ad) : Sp := spCall 1 K d
def sp_again (K : PySem.W.Frag) (d : Ad) : Sp := spCall 2 K d
def sp_take (K : PySem.W.Frag) (d : Ad) : Sp := spCall 3 K d
def sp_keep (K : PySem.W.Frag) (d : Ad) : Sp := spCall 4 K d
def sp_lose (K : PySem.W.Frag) (d : Ad) : Sp := spCall 5 K d
def sp_save (K : PySem.W.Frag) (d : Ad) : Sp := spCall 6 K d
def sp_kill (K : PySem.W.Frag) (d : Ad) : Sp := spCall 7 K d
def sp_mind (K : PySem.W.Frag) (d : Ad) : Sp := spCall 8 K d
section
variable {P : Program} {w : World} {K : PySem.W.Frag} {mg : Str → Option Value} {base : Heap} {d : Ad}
theorem ok_begin (T : Txt K mg d) : FnOk P w K mg base CX0 5 d.f_begin d.fd_begin ["house", "numbers"] (sp_begin K d) := by
  refine T.F_begin.ok sc_begin (fun vs H Q E h => ?_) (fun cdv A outer sh H vs Q E hr h => ?_)
  · obtain ⟨x, s, n, l, ns, c, rfl, h, hl, hn, hc, k⟩ := h
    rfl
  obtain ⟨x, s, n, l, ns, c, rfl, h, hl, hn, hc, k⟩ := h
  refine ⟨_, (pss_cons (ps_if (pt_val (pe_dget (hu_of hr) (pe_fld (pv 0) rfl) (pe_gI (by rfl) T.g_KEEPER) (fun _ _ => rfl))) (pss_one (ps_ret (pe_lst (pa_cons (pe_gI (by rfl) T.g_NOT_NOW) pa_nil)))) pss_nil)
      (pss_cons (ps_expr (pe_meth0 (pv 0) T.cl_House T.m_House_come_up (ok_House_come_up T) (hr.mono (by decide)) T.b_House_come_up .nil pass0))
      (pss_one (ps_ret (pe_lst (pa_cons (pe_callB call_len_seq (by rfl) T.z_len PySem.boot_len (pa_cons (pe_fld (pe_fld (pv 0) rfl) rfl) pa_nil)) pa_nil)))))), ?_⟩
  obtain ⟨rfl, rfl⟩ := in_0 hc
  refine s_seq (s_if (tv_B (h_alive (p := 1) T h.at_ (e_var rfl) e_c (by decide) (by decide))) (fun b => ?_) (fun b => ?_))
  · have st : Ha10.step s .begin_ = (s, [-8]) := if_pos b
    rw [st] at k
    exact fin (Fr.refl H x) h.at_ h.wl (l_lst (a_cons e_c a_nil) (by decide)) rfl rfl k
  · have st : Ha10.step s .begin_ = (Ha10.begins s, Ha10.ints [s.disk.done.length]) := if_neg (by rw [b]; exact Bool.false_ne_true)
    rw [st] at k
    refine s_nil ?_
    dsimp only
    refine s_seq (c_meth (e_var rfl) (h.at_.at_ .house) (no_House_come_up ..) a_nil ⟨x, s, rfl, h.at_, h.inv.wf.procs, fun H1 x1 g1 w1 f1 => ?_⟩)
    have e1 : (refs x1.dd).length = s.disk.done.length := by
      rw [refs_len, g1.ddLen]
      exact congrArg (fun b => b.done.length) (fold_keep (f := Ha10.started) (fun s => s.disk) (fun _ _ => rfl) [1, 2, 3, 4] s)
    dsimp only
    refine fin f1 g1 w1 (l_lst (a_cons (e_len (e_fld (hf_disk T g1 (e_var (by rw [f1.hs]; rfl))) (g1.at_ .disk) T.cl_Book T.na_Book_done (lk_Book_done ..)) (SqL.of (g1.at_ .ddone))) a_nil) (by show 1 ≤ sizeLine; decide)) ?_ rfl k
    rw [e1]
    rfl
theorem ok_ask (T : Txt K mg d) : FnOk P w K mg base CX0 2 d.f_ask d.fd_ask ["house", "numbers"] (sp_ask K d) := by
  refine T.F_ask.ok sc_ask (fun vs H Q E h => ?_) (fun cdv A outer sh H vs Q E hr h => ?_)
  · obtain ⟨x, s, n, l, ns, cc, rfl, h, hl, hn, hc, k⟩ := h
    rfl
  obtain ⟨x, s, n, l, ns, cc, rfl, h, hl, hn, hc, k⟩ := h
  refine ⟨_, (pss_cons (ps_set (i := 2) sc_ask.nd rfl (Or.inl rfl) (pe_ix ix_list (pv 1) pe_int (fun _ _ => rfl)))
      (pss_cons (ps_set (i := 3) sc_ask.nd rfl (Or.inl rfl) (pe_ix ix_list (pv 1) pe_int (fun _ _ => rfl)))
      (pss_cons (ps_set (i := 4) sc_ask.nd rfl (Or.inl rfl) (pe_callTy call_tuple_of (by rfl) T.z_tuple (by decide +kernel) (pa_cons (pe_slice sl_list (pv 1) (po_some pe_int) po_none) pa_nil)))
      (pss_cons (ps_if (PW.pt (pw_or (pt_cmp (pc_dnotin (hu_of hr) (pv 2) (pe_fld (pv 0) rfl)) (by rfl)) (pw_or1 (pt_cmpR op_notIn_seq (pv 3) (pe_glob (v := V.ref d.a_SERVERS) (by rfl) T.g_SERVERS rfl) (by rfl))))) (pss_one (ps_ret (pe_lst (pa_cons (pe_gI (by rfl) T.g_NO_SUCH) pa_nil)))) pss_nil)
      (pss_cons (ps_if (PW.pt (pw_or (pt_cmpR op_gt (pe_ix ix_tup (pv 4) pe_int (fun _ _ => rfl)) (pe_gI (by rfl) T.g_MOST_WHAT) (nomark _)) (pw_or (pt_cmpR op_gt (pe_ix ix_tup (pv 4) pe_int (fun _ _ => rfl)) (pe_gI (by rfl) T.g_MOST_ACCOUNT) (nomark _)) (pw_or1 (pt_cmpR op_gt (pe_ix ix_tup (pv 4) pe_int (fun _ _ => rfl)) (pe_gI (by rfl) T.g_MOST_MUCH) (nomark _)))))) (pss_one (ps_ret (pe_lst (pa_cons (pe_gI (by rfl) T.g_NO_SUCH) pa_nil)))) pss_nil)
      (pss_cons (ps_set (i := 5) sc_ask.nd rfl (Or.inl rfl) (pe_dget (hu_of hr) (pe_fld (pv 0) rfl) (pv 2) (fun _ _ => rfl)))
      (pss_cons (ps_if (pt_val (pe_fld (pv 5) rfl)) (pss_one (ps_ret (pe_lst (pa_cons (pe_gI (by rfl) T.g_NOT_NOW) pa_nil)))) pss_nil)
      (pss_cons (ps_if (pt_val (pe_meth0 (pv 0) T.cl_House T.m_House_is_full (ok_House_is_full T) (hr.mono (by decide)) T.b_House_is_full .nil pass0)) (pss_one (ps_ret (pe_lst (pa_cons (pe_gI (by rfl) T.g_TOO_MANY) pa_nil)))) pss_nil)
      (pss_cons (ps_fldaug (pv 5) pe_int in_add)
      (pss_cons (ps_fld (pv 5) pe_bl rfl)
      (pss_cons (ps_fld (pv 5) (pv 4) rfl)
      (pss_cons (ps_expr (pe_meth (pv 0) T.cl_House T.m_House_send_request (ok_House_send_request T) (hr.mono (by decide)) T.b_House_send_request .nil pass0 (pa_cons (pv 2) (pa_cons (pv 3) pa_nil))))
      (pss_one (ps_ret (pe_lst (pa_cons (pe_fld (pv 5) rfl) pa_nil)))))))))))))))), ?_⟩
  obtain ⟨c, sv, what, key, m, rfl, rfl⟩ := in_1 hc
  have awl : s.air.length + s.waiting.length ≤ 100000 := Nat.le_trans h.inv.bd.air h.le
  refine s_seq (s_set (v := .int (c : Int)) (e_ixL (e_var rfl) e_c (SqL.of hl) (at_of (j := 0) rfl rfl)) ?_)
  refine s_seq (s_set (v := .int (sv : Int)) (e_ixL (e_var rfl) e_c (SqL.of hl) (at_of (j := 1) rfl rfl)) ?_)
  dsimp only
  refine s_seq (s_setU (xs := nv [what, key, m]) (u_tuple (l_slice1 (e_var rfl) e_c (SqL.of hl))) fun p H1 hp sm e => ?_)
  have h1 := h.at_.same sm
  have f1 := Fr.same x sm
  dsimp only
  refine s_seq (s_if (b := !Ha10.isClient c || !Ha10.isServer sv) (tv_is (tv_or (tv_B (e_dnotin (e_var rfl) (hf_clients T h1 (e_var rfl)) (h1.at_ .clients))) fun _ => tv_T (e_notInT (e_var rfl) e_c (T.q_SERVERS H1) rfl)) (by rw [cl_in, sv_in])) (fun b => ?_) (fun b => ?_))
  · have b : Ha10.isClient c = false ∨ Ha10.isServer sv = false := by simpa using b
    have st : Ha10.step s (.ask c sv what key m) = (s, [-1]) := if_pos (by rcases b with b | b; exact .inl b; exact .inr (.inl b))
    rw [st] at k
    exact fin f1 h1 h.wl (l_lst (a_cons e_c a_nil) (by decide)) rfl rfl k
  · have b : Ha10.isClient c = true ∧ Ha10.isServer sv = true := by simpa using b
    have ok := isC b.1
    have h3 := h.inv.wf.clients
    refine s_nil ?_
    dsimp only
    refine s_seq (s_if (tv_or (tv_T (e_gt (e_ixT (e_var rfl) e_c (SqT.of e) (at_of (j := 0) rfl rfl)) e_c)) fun _ => tv_or (tv_T (e_gt (e_ixT (e_var rfl) e_c (SqT.of e) (at_of (j := 1) rfl rfl)) e_c)) fun _ => tv_T (e_gt (e_ixT (e_var rfl) e_c (SqT.of e) (at_of (j := 2) rfl rfl)) e_c)) (fun b2 => ?_) (fun b2 => ?_))
    · have b2 : 2 < what ∨ 3 < key ∨ 1000 < m := by
        simp only [Bool.or_eq_true, decide_eq_true_eq] at b2
        omega
      have st : Ha10.step s (.ask c sv what key m) = (s, [-1]) := if_pos (.inr (.inr b2))
      rw [st] at k
      exact fin f1 h1 h.wl (l_lst (a_cons e_c a_nil) (by decide)) rfl rfl k
    · have b2 : ¬ (2 < what ∨ 3 < key ∨ 1000 < m) := by
        simp only [Bool.or_eq_false_iff, decide_eq_false_iff_not] at b2
        omega
      have c0 : ¬ (Ha10.isClient c = false ∨ Ha10.isServer sv = false ∨ 2 < what ∨ 3 < key ∨ 1000 < m) := by
        rintro (z | z | z)
        · rw [b.1] at z; cases z
        · rw [b.2] at z; cases z
        · exact b2 z
      refine s_nil ?_
      dsimp only
      refine s_seq (s_set (h_client T h1 (e_var rfl) (e_var rfl) ok) ?_)
      dsimp only
      refine s_seq (s_if (tv_B (e_fld (e_var rfl) (h1.cli ok) T.cl_Client T.na_Client_waits (lk_Client_waits ..))) (fun b3 => ?_) (fun b3 => ?_))
      · have st : Ha10.step s (.ask c sv what key m) = (s, [-8]) := (if_neg c0).trans (if_pos b3)
        rw [st] at k
        exact fin f1 h1 h.wl (l_lst (a_cons e_c a_nil) (by decide)) rfl rfl k
      · have n3 : ¬ (Ha10.client s c).waits = true := by rw [b3]; exact Bool.false_ne_true
        refine s_nil ?_
        dsimp only
        refine s_seq (s_if (tv_B (e_full h1 (e_var rfl))) (fun b4 => ?_) (fun b4 => ?_))
        · have st : Ha10.step s (.ask c sv what key m) = (s, [-6]) := (if_neg c0).trans ((if_neg n3).trans (if_pos (of_decide_eq_true b4)))
          rw [st] at k
          exact fin f1 h1 h.wl (l_lst (a_cons e_c a_nil) (by decide)) rfl rfl k
        · have st : Ha10.step s (.ask c sv what key m) = (Ha10.send (Ha10.setClient s c ⟨(Ha10.client s c).num + 1, ⟨what, key, m⟩, true, (Ha10.client s c).heard⟩) [.req c sv ((Ha10.client s c).num + 1) ⟨what, key, m⟩], Ha10.ints [(Ha10.client s c).num + 1]) := (if_neg c0).trans ((if_neg n3).trans (if_neg (of_decide_eq_false b4)))
          rw [st] at k
          refine s_nil ?_
          dsimp only
          -- client.made += 1
          refine s_seq (s_fldaug (e_var rfl) e_c (h1.cli ok) T.cl_Client T.na_Client_made (lk_Client_made ..) (few_Client ..) ?_)
          have em : ((Ha10.client s c).num : Int) + 1 = (((Ha10.client s c).num + 1 : Nat) : Int) := by omega
          rw [pt_Client_made, em]
          have g1 := h1.setCl h3 ok (n := (Ha10.client s c).num + 1) (b := (Ha10.client s c).waits) (q := (Ha10.client s c).ask) (h1.tk.aqT (ci c)) (fun z => absurd z n3)
          have f2 := Fr.set (x' := xQ x (ci c) (x.aq (ci c)) (x.ak (ci c))) (o := .ins d.c_Client (x.dx (.cl (ci c))) (fClient (.int (((Ha10.client s c).num + 1 : Nat) : Int)) (.bl (Ha10.client s c).waits) (.ref (x.aq (ci c))) (.ref (x.A (.hd (ci c)))))) h1 (.cl (ci c)) rfl
          have c1 : Ha10.client (Ha10.setClient s c ⟨(Ha10.client s c).num + 1, (Ha10.client s c).ask, (Ha10.client s c).waits, (Ha10.client s c).heard⟩) c = ⟨(Ha10.client s c).num + 1, (Ha10.client s c).ask, (Ha10.client s c).waits, (Ha10.client s c).heard⟩ := by rw [client_set h3 _ ok ok.1, if_pos rfl]
          have gc1 := g1.cli ok
          rw [c1] at gc1
          -- client.waits = True
          dsimp only
          refine s_seq (s_fld (y := .bl true) e_c (e_var rfl) gc1 T.cl_Client T.na_Client_waits (few_Client ..) ?_)
          rw [pt_Client_waits]
          have g2 := g1.setCl (setC3 h3 _ _) ok (n := (Ha10.client s c).num + 1) (b := true) (q := (xQ x (ci c) (x.aq (ci c)) (x.ak (ci c))).ak (ci c)) (g1.tk.aqT (ci c)) (fun _ => rfl)
          rw [setC2, c1] at g2
          have f3 := Fr.set (x' := xQ (xQ x (ci c) (x.aq (ci c)) (x.ak (ci c))) (ci c) ((xQ x (ci c) (x.aq (ci c)) (x.ak (ci c))).aq (ci c)) ((xQ x (ci c) (x.aq (ci c)) (x.ak (ci c))).ak (ci c))) (o := .ins d.c_Client (x.dx (.cl (ci c))) (fClient (.int (((Ha10.client s c).num + 1 : Nat) : Int)) (.bl true) (.ref ((xQ x (ci c) (x.aq (ci c)) (x.ak (ci c))).aq (ci c))) (.ref (x.A (.hd (ci c)))))) g1 (.cl (ci c)) rfl
          generalize hx2 : xQ (xQ x (ci c) (x.aq (ci c)) (x.ak (ci c))) (ci c) ((xQ x (ci c) (x.aq (ci c)) (x.ak (ci c))).aq (ci c)) ((xQ x (ci c) (x.aq (ci c)) (x.ak (ci c))).ak (ci c)) = x2 at g2 f3
          have a2 : x2.A = x.A := by rw [← hx2]; rfl
          have w2 : x2.wait = x.wait := by rw [← hx2]; rfl
          have d2 : x2.dx = x.dx := by rw [← hx2]; rfl
          generalize hq : (xQ x (ci c) (x.aq (ci c)) (x.ak (ci c))).ak (ci c) = qq at g2
          have c2 : Ha10.client (Ha10.setClient s c ⟨(Ha10.client s c).num + 1, qq, true, (Ha10.client s c).heard⟩) c = ⟨(Ha10.client s c).num + 1, qq, true, (Ha10.client s c).heard⟩ := by rw [client_set h3 _ ok ok.1, if_pos rfl]
          have gc2 := g2.cli ok
          rw [c2] at gc2
          -- client.asked = asked
          dsimp only
          have f13 := f1.trans (f2.trans f3)
          have e3 := (f2.trans f3).tup h1 e
          refine s_seq (s_fld (y := .ref p) (e_var rfl) (e_var (v := .ref (x2.A (.cl (ci c)))) (by rw [a2]; rfl)) gc2 T.cl_Client T.na_Client_asked (few_Client ..) ?_)
          rw [pt_Client_asked]
          have g3 := g2.setCl (setC3 h3 _ _) ok (n := (Ha10.client s c).num + 1) (b := true) (q := ⟨what, key, m⟩) (r := ⟨what, key, m⟩) (p := p) e3 (fun _ => rfl)
          rw [setC2, c2] at g3
          have f4 := Fr.set (x' := xQ x2 (ci c) p ⟨what, key, m⟩) (o := .ins d.c_Client (x2.dx (.cl (ci c))) (fClient (.int (((Ha10.client s c).num + 1 : Nat) : Int)) (.bl true) (.ref p) (.ref (x2.A (.hd (ci c)))))) g2 (.cl (ci c)) rfl
          have c3 : Ha10.client (Ha10.setClient s c ⟨(Ha10.client s c).num + 1, ⟨what, key, m⟩, true, (Ha10.client s c).heard⟩) c = ⟨(Ha10.client s c).num + 1, ⟨what, key, m⟩, true, (Ha10.client s c).heard⟩ := by rw [client_set h3 _ ok ok.1, if_pos rfl]
          -- house.send_request(c, server)
          dsimp only
          refine s_seq (c_meth (e_var (v := .ref ((xQ x2 (ci c) p ⟨what, key, m⟩).A .house)) (by show _ = some (some (V.ref (x2.A .house))); rw [a2]; rfl)) (g3.at_ .house) (no_House_send_request ..) (a_cons (e_var rfl) (a_cons (e_var rfl) a_nil)) ⟨xQ x2 (ci c) p ⟨what, key, m⟩, _, c, sv, rfl, g3, ok, by rw [c3], by show s.air.length ≤ 1000000; omega, fun H4 x4 g4 w4 a4 f5 => ?_⟩)
          rw [c3] at g4
          have gc4 := g4.cli ok
          have c4 : Ha10.client (Ha10.send (Ha10.setClient s c ⟨(Ha10.client s c).num + 1, ⟨what, key, m⟩, true, (Ha10.client s c).heard⟩) [.req c sv ((Ha10.client s c).num + 1) ⟨what, key, m⟩]) c = ⟨(Ha10.client s c).num + 1, ⟨what, key, m⟩, true, (Ha10.client s c).heard⟩ := c3
          rw [c4] at gc4
          dsimp only
          have wl4 : WL x4 (Ha10.send (Ha10.setClient s c ⟨(Ha10.client s c).num + 1, ⟨what, key, m⟩, true, (Ha10.client s c).heard⟩) [.req c sv ((Ha10.client s c).num + 1) ⟨what, key, m⟩]) := by
            show waitLetters s.book s.waiting = x4.wait.map (·.2)
            rw [w4]
            show _ = x2.wait.map (·.2)
            rw [w2]
            exact h.wl
          exact fin (f13.trans (f4.trans f5)) g4 wl4 (l_lst (a_cons (e_fld (e_var (v := .ref (x4.A (.cl (ci c)))) (by rw [a4]; show _ = some (some (V.ref (x2.A (.cl (ci c))))); rw [a2]; rfl)) gc4 T.cl_Client T.na_Client_made (lk_Client_made ..)) a_nil) (by show 1 ≤ sizeLine; decide)) rfl rfl k
end
end Su

namespace Su
open PySem PySem.Spec PyProof.Rows L2
theorem bnot_t {b : Bool} (h : (!b) = true) : b = false := by cases b; rfl; cases h
theorem bnot_f {b : Bool} (h : (!b) = false) : b = true := by cases b; cases h; rfl
theorem has_at {s : Ha10.St} {k : Nat} (h : (decide (1 ≤ k) && decide (k ≤ s.air.length)) = true) : ∃ l, s.air[k - 1]? = some l ∧ ¬ k = 0 := by
  rw [Bool.and_eq_true, decide_eq_true_eq, decide_eq_true_eq] at h
  exact ⟨_, List.getElem?_eq_getElem (by omega), by omega⟩
theorem has_not {s : Ha10.St} {k : Nat} (h : (decide (1 ≤ k) && decide (k ≤ s.air.length)) = false) : k = 0 ∨ s.air[k - 1]? = none := by
  rw [Bool.and_eq_false_iff, decide_eq_false_iff_not, decide_eq_false_iff_not] at h
  by_cases z : k = 0
  · exact .inl z
  · exact .inr (List.getElem?_eq_none (by omega))
section
variable {d : Ad} {H : Hp} {x : Dec} {s : Ha10.St} {n : Nat}
theorem HAt.letAt (h : HAt d H x s) {k : Nat} {l : Ha10.Letter} (e : s.air[k]? = some l) : ∃ t, x.air[k]? = some (t, l) ∧ H t = some (.tup (nv (Ha10.letterTold l))) := by
  rw [h.tk.air, List.getElem?_map] at e
  cases q : x.air[k]? with
  | none => rw [q] at e; cases e
  | some p =>
    rw [q] at e
    have e : p.2 = l := Option.some.inj e
    subst e
    exact ⟨p.1, rfl, h.tk.airT p (List.mem_of_getElem? q)⟩
theorem Hs.lost (h : Hs d H x s n) (k : Nat) : Hs d (upd H (x.A .letters) (.lst ((refs x.air).eraseIdx k))) { x with air := x.air.eraseIdx k } { s with air := s.air.eraseIdx k } n :=
  ⟨h.at_.lost k, h.wl, inv_erase h.inv k, h.le⟩
theorem take_none {k : Nat} (h : k = 0 ∨ s.air[k - 1]? = none) : Ha10.step s (.take k) = (s, [-5]) := by
  unfold Ha10.step
  dsimp only
  rcases h with rfl | h
  · cases s.air[0 - 1]? <;> rfl
  · rw [h]
theorem keep_none {k : Nat} (h : k = 0 ∨ s.air[k - 1]? = none) : Ha10.step s (.keep k) = (s, [-5]) := by
  unfold Ha10.step
  dsimp only
  rcases h with rfl | h
  · cases s.air[0 - 1]? <;> rfl
  · rw [h]
theorem lose_none {k : Nat} (h : k = 0 ∨ s.air[k - 1]? = none) : Ha10.step s (.lose k) = (s, [-5]) := by
  unfold Ha10.step
  dsimp only
  rcases h with rfl | h
  · cases s.air[0 - 1]? <;> rfl
  · rw [h]
theorem take_some {k : Nat} {l : Ha10.Letter} (h : s.air[k - 1]? = some l) (hk : ¬ k = 0) : Ha10.step s (.take k) = (Ha10.arrives { s with air := s.air.eraseIdx (k - 1) } l, Ha10.ints (Ha10.letterTold l)) := by
  unfold Ha10.step
  dsimp only
  rw [h]
  exact if_neg hk
theorem lose_some {k : Nat} {l : Ha10.Letter} (h : s.air[k - 1]? = some l) (hk : ¬ k = 0) : Ha10.step s (.lose k) = ({ s with air := s.air.eraseIdx (k - 1) }, Ha10.ints (Ha10.letterTold l)) := by
  unfold Ha10.step
  dsimp only
  rw [h]
  exact if_neg hk
theorem keep_full {k : Nat} {l : Ha10.Letter} (h : s.air[k - 1]? = some l) (hk : ¬ k = 0) (hf : 60 ≤ s.air.length) : Ha10.step s (.keep k) = (s, [-6]) := by
  unfold Ha10.step
  dsimp only
  rw [h]
  exact (if_neg hk).trans (if_pos hf)
theorem keep_some {k : Nat} {l : Ha10.Letter} (h : s.air[k - 1]? = some l) (hk : ¬ k = 0) (hf : ¬ 60 ≤ s.air.length) : Ha10.step s (.keep k) = (Ha10.arrives s l, Ha10.ints (Ha10.letterTold l)) := by
  unfold Ha10.step
  dsimp only
  rw [h]
  exact (if_neg hk).trans (if_neg hf)
end
section
variable {P : Program} {w : World} {K : PySem.W.Frag} {mg : Str → Option Value} {base : Heap} {d : Ad}
theorem ok_again (T : Txt K mg d) : FnOk P w K mg base CX0 2 d.f_again d.fd_again ["house", "numbers"] (sp_again K d) := by
  refine T.F_again.ok sc_again (fun vs H Q E h => ?_) (fun cdv A outer sh H vs Q E hr h => ?_)
  · obtain ⟨x, s, n, l, ns, cc, rfl, h, hl, hn, hc, k⟩ := h
    rfl
  obtain ⟨x, s, n, l, ns, cc, rfl, h, hl, hn, hc, k⟩ := h
  refine ⟨_, (pss_cons (ps_set (i := 2) sc_again.nd rfl (Or.inl rfl) (pe_ix ix_list (pv 1) pe_int (fun _ _ => rfl)))
      (pss_cons (ps_set (i := 3) sc_again.nd rfl (Or.inl rfl) (pe_ix ix_list (pv 1) pe_int (fun _ _ => rfl)))
      (pss_cons (ps_if (PW.pt (pw_or (pt_cmp (pc_dnotin (hu_of hr) (pv 2) (pe_fld (pv 0) rfl)) (by rfl)) (pw_or1 (pt_cmpR op_notIn_seq (pv 3) (pe_glob (v := V.ref d.a_SERVERS) (by rfl) T.g_SERVERS rfl) (by rfl))))) (pss_one (ps_ret (pe_lst (pa_cons (pe_gI (by rfl) T.g_NO_SUCH) pa_nil)))) pss_nil)
      (pss_cons (ps_set (i := 4) sc_again.nd rfl (Or.inl rfl) (pe_dget (hu_of hr) (pe_fld (pv 0) rfl) (pv 2) (fun _ _ => rfl)))
      (pss_cons (ps_if (pt_not (pt_val (pe_fld (pv 4) rfl))) (pss_one (ps_ret (pe_lst (pa_cons (pe_gI (by rfl) T.g_NOT_NOW) pa_nil)))) pss_nil)
      (pss_cons (ps_if (pt_val (pe_meth0 (pv 0) T.cl_House T.m_House_is_full (ok_House_is_full T) (hr.mono (by decide)) T.b_House_is_full .nil pass0)) (pss_one (ps_ret (pe_lst (pa_cons (pe_gI (by rfl) T.g_TOO_MANY) pa_nil)))) pss_nil)
      (pss_cons (ps_expr (pe_meth (pv 0) T.cl_House T.m_House_send_request (ok_House_send_request T) (hr.mono (by decide)) T.b_House_send_request .nil pass0 (pa_cons (pv 2) (pa_cons (pv 3) pa_nil))))
      (pss_one (ps_ret (pe_lst (pa_cons (pe_fld (pv 4) rfl) pa_nil))))))))))), ?_⟩
  obtain ⟨c, sv, rfl, rfl⟩ := in_2 hc
  have awl : s.air.length + s.waiting.length ≤ 100000 := Nat.le_trans h.inv.bd.air h.le
  refine s_seq (s_set (v := .int (c : Int)) (e_ixL (e_var rfl) e_c (SqL.of hl) (at_of (j := 0) rfl rfl)) ?_)
  refine s_seq (s_set (v := .int (sv : Int)) (e_ixL (e_var rfl) e_c (SqL.of hl) (at_of (j := 1) rfl rfl)) ?_)
  have h1 := h.at_
  have f1 := Fr.refl H x
  dsimp only
  refine s_seq (s_if (b := !Ha10.isClient c || !Ha10.isServer sv) (tv_is (tv_or (tv_B (e_dnotin (e_var rfl) (hf_clients T h1 (e_var rfl)) (h1.at_ .clients))) fun _ => tv_T (e_notInT (e_var rfl) e_c (T.q_SERVERS H) rfl)) (by rw [cl_in, sv_in])) (fun b => ?_) (fun b => ?_))
  · have b : Ha10.isClient c = false ∨ Ha10.isServer sv = false := by simpa using b
    have st : Ha10.step s (.again c sv) = (s, [-1]) := if_pos b
    rw [st] at k
    exact fin f1 h1 h.wl (l_lst (a_cons e_c a_nil) (by decide)) rfl rfl k
  · have b : Ha10.isClient c = true ∧ Ha10.isServer sv = true := by simpa using b
    have ok := isC b.1
    have c0 : ¬ (Ha10.isClient c = false ∨ Ha10.isServer sv = false) := by
      rintro (z | z)
      · rw [b.1] at z; cases z
      · rw [b.2] at z; cases z
    refine s_nil ?_
    dsimp only
    refine s_seq (s_set (h_client T h1 (e_var rfl) (e_var rfl) ok) ?_)
    dsimp only
    refine s_seq (s_if (tv_not (tv_B (e_fld (e_var rfl) (h1.cli ok) T.cl_Client T.na_Client_waits (lk_Client_waits ..)))) (fun b3 => ?_) (fun b3 => ?_))
    · have st : Ha10.step s (.again c sv) = (s, [-8]) := (if_neg c0).trans (if_pos (by simpa using b3))
      rw [st] at k
      exact fin f1 h1 h.wl (l_lst (a_cons e_c a_nil) (by decide)) rfl rfl k
    · have hw : (Ha10.client s c).waits = true := by simpa using b3
      have n3 : ¬ (Ha10.client s c).waits = false := by rw [hw]; exact fun z => nomatch z
      refine s_nil ?_
      dsimp only
      refine s_seq (s_if (tv_B (e_full h1 (e_var rfl))) (fun b4 => ?_) (fun b4 => ?_))
      · have st : Ha10.step s (.again c sv) = (s, [-6]) := (if_neg c0).trans ((if_neg n3).trans (if_pos (of_decide_eq_true b4)))
        rw [st] at k
        exact fin f1 h1 h.wl (l_lst (a_cons e_c a_nil) (by decide)) rfl rfl k
      · have st : Ha10.step s (.again c sv) = (Ha10.send s [.req c sv (Ha10.client s c).num (Ha10.client s c).ask], Ha10.ints [(Ha10.client s c).num]) := (if_neg c0).trans ((if_neg n3).trans (if_neg (of_decide_eq_false b4)))
        rw [st] at k
        refine s_nil ?_
        dsimp only
        refine s_seq (c_meth (e_var rfl) (h1.at_ .house) (no_House_send_request ..) (a_cons (e_var rfl) (a_cons (e_var rfl) a_nil)) ⟨x, s, c, sv, rfl, h1, ok, hw, by omega, fun H4 x4 g4 w4 a4 f5 => ?_⟩)
        have gc4 := g4.cli ok
        dsimp only
        have wl4 : WL x4 (Ha10.send s [.req c sv (Ha10.client s c).num (Ha10.client s c).ask]) := by
          show waitLetters s.book s.waiting = x4.wait.map (·.2)
          rw [w4]
          exact h.wl
        exact fin f5 g4 wl4 (l_lst (a_cons (e_fld (e_var (v := .ref (x4.A (.cl (ci c)))) (by rw [a4]; rfl)) gc4 T.cl_Client T.na_Client_made (lk_Client_made ..)) a_nil) (by show 1 ≤ sizeLine; decide)) rfl rfl k
theorem ok_take (T : Txt K mg d) : FnOk P w K mg base CX0 6 d.f_take d.fd_take ["house", "numbers"] (sp_take K d) := by
  refine T.F_take.ok sc_take (fun vs H Q E h => ?_) (fun cdv A outer sh H vs Q E hr h => ?_)
  · obtain ⟨x, s, n, l, ns, cc, rfl, h, hl, hn, hc, k⟩ := h
    rfl
  obtain ⟨x, s, n, l, ns, cc, rfl, h, hl, hn, hc, k⟩ := h
  refine ⟨_, (pss_cons (ps_set (i := 2) sc_take.nd rfl (Or.inl rfl) (pe_ix ix_list (pv 1) pe_int (fun _ _ => rfl)))
      (pss_cons (ps_if (pt_not (pt_val (pe_meth (pv 0) T.cl_House T.m_House_has_letter (ok_House_has_letter T) (hr.mono (by decide)) T.b_House_has_letter .nil pass0 (pa_cons (pv 2) pa_nil)))) (pss_one (ps_ret (pe_lst (pa_cons (pe_gI (by rfl) T.g_NOTHING_THERE) pa_nil)))) pss_nil)
      (pss_cons (ps_set (i := 3) sc_take.nd rfl (Or.inl rfl) (pe_bm PySem.F.plainAttrs_list PySem.F.slot_list_pop PySem.F.type_list_pop mt_popAt (pe_fld (pv 0) rfl) (pa_cons (pe_op op_sub (pv 2) pe_int) pa_nil)))
      (pss_cons (ps_expr (pe_meth (pv 0) T.cl_House T.m_House_letter_arrives (ok_House_letter_arrives T) (hr.mono (by decide)) T.b_House_letter_arrives .nil pass0 (pa_cons (pv 3) pa_nil)))
      (pss_one (ps_ret (pe_callTy call_list_of (by rfl) T.z_list (by decide +kernel) (pa_cons (pv 3) pa_nil)))))))), ?_⟩
  obtain ⟨m, rfl, rfl⟩ := in_3 hc
  have awl : s.air.length + s.waiting.length ≤ 100000 := Nat.le_trans h.inv.bd.air h.le
  refine s_seq (s_set (v := .int (m : Int)) (e_ixL (e_var rfl) e_c (SqL.of hl) (at_of (j := 0) rfl rfl)) ?_)
  dsimp only
  refine s_seq (s_if (tv_not (tv_B (e_has h.at_ (e_var rfl) (e_var rfl)))) (fun b => ?_) (fun b => ?_))
  · have b : (decide (1 ≤ m) && decide (m ≤ s.air.length)) = false := bnot_t b
    rw [take_none (has_not b)] at k
    exact fin (Fr.refl H x) h.at_ h.wl (l_lst (a_cons e_c a_nil) (by decide)) rfl rfl k
  · have b : (decide (1 ≤ m) && decide (m ≤ s.air.length)) = true := bnot_f b
    obtain ⟨lt, hlt, m0⟩ := has_at b
    rw [take_some hlt m0] at k
    obtain ⟨t, hxt, ht⟩ := h.at_.letAt hlt
    refine s_nil ?_
    dsimp only
    refine s_seq (e_pop (hf_letters T h.at_ (e_var rfl)) (e_sub (e_var rfl) e_c) (h.at_.at_ .letters) (k := m - 1) (by omega) (refs_get hxt) (by rw [h.at_.airLen]; omega) ?_)
    have h1 := h.lost (m - 1)
    have f1 := Fr.set (x' := { x with air := x.air.eraseIdx (m - 1) }) (o := .lst ((refs x.air).eraseIdx (m - 1))) h.at_ .letters rfl
    have ht1 := f1.tup h.at_ ht
    have lok := h.inv.wf.air lt (List.mem_of_getElem? hlt)
    show tSeq _ _ _ _ _
    refine s_seq (c_meth (e_var rfl) (h1.at_.at_ .house) (no_House_letter_arrives ..) (a_cons (e_var rfl) a_nil) ⟨{ x with air := x.air.eraseIdx (m - 1) }, _, n, t, lt, rfl, h1, ht1, lok, fun H2 x2 g2 w2 f2 => ?_⟩)
    dsimp only
    exact fin (f1.trans f2) g2 w2 (l_list (e_var rfl) (.inr (SqT.of (f2.tup h1.at_ ht1)))) (nv_ints _).symm rfl k
theorem ok_keep (T : Txt K mg d) : FnOk P w K mg base CX0 6 d.f_keep d.fd_keep ["house", "numbers"] (sp_keep K d) := by
  refine T.F_keep.ok sc_keep (fun vs H Q E h => ?_) (fun cdv A outer sh H vs Q E hr h => ?_)
  · obtain ⟨x, s, n, l, ns, cc, rfl, h, hl, hn, hc, k⟩ := h
    rfl
  obtain ⟨x, s, n, l, ns, cc, rfl, h, hl, hn, hc, k⟩ := h
  refine ⟨_, (pss_cons (ps_set (i := 2) sc_keep.nd rfl (Or.inl rfl) (pe_ix ix_list (pv 1) pe_int (fun _ _ => rfl)))
      (pss_cons (ps_if (pt_not (pt_val (pe_meth (pv 0) T.cl_House T.m_House_has_letter (ok_House_has_letter T) (hr.mono (by decide)) T.b_House_has_letter .nil pass0 (pa_cons (pv 2) pa_nil)))) (pss_one (ps_ret (pe_lst (pa_cons (pe_gI (by rfl) T.g_NOTHING_THERE) pa_nil)))) pss_nil)
      (pss_cons (ps_if (pt_val (pe_meth0 (pv 0) T.cl_House T.m_House_is_full (ok_House_is_full T) (hr.mono (by decide)) T.b_House_is_full .nil pass0)) (pss_one (ps_ret (pe_lst (pa_cons (pe_gI (by rfl) T.g_TOO_MANY) pa_nil)))) pss_nil)
      (pss_cons (ps_set (i := 3) sc_keep.nd rfl (Or.inl rfl) (pe_ix ix_list (pe_fld (pv 0) rfl) (pe_op op_sub (pv 2) pe_int) (fun _ _ => rfl)))
      (pss_cons (ps_expr (pe_meth (pv 0) T.cl_House T.m_House_letter_arrives (ok_House_letter_arrives T) (hr.mono (by decide)) T.b_House_letter_arrives .nil pass0 (pa_cons (pv 3) pa_nil)))
      (pss_one (ps_ret (pe_callTy call_list_of (by rfl) T.z_list (by decide +kernel) (pa_cons (pv 3) pa_nil))))))))), ?_⟩
  obtain ⟨m, rfl, rfl⟩ := in_4 hc
  have awl : s.air.length + s.waiting.length ≤ 100000 := Nat.le_trans h.inv.bd.air h.le
  refine s_seq (s_set (v := .int (m : Int)) (e_ixL (e_var rfl) e_c (SqL.of hl) (at_of (j := 0) rfl rfl)) ?_)
  dsimp only
  refine s_seq (s_if (tv_not (tv_B (e_has h.at_ (e_var rfl) (e_var rfl)))) (fun b => ?_) (fun b => ?_))
  · have b : (decide (1 ≤ m) && decide (m ≤ s.air.length)) = false := bnot_t b
    rw [keep_none (has_not b)] at k
    exact fin (Fr.refl H x) h.at_ h.wl (l_lst (a_cons e_c a_nil) (by decide)) rfl rfl k
  · have b : (decide (1 ≤ m) && decide (m ≤ s.air.length)) = true := bnot_f b
    obtain ⟨lt, hlt, m0⟩ := has_at b
    obtain ⟨t, hxt, ht⟩ := h.at_.letAt hlt
    refine s_nil ?_
    dsimp only
    refine s_seq (s_if (tv_B (e_full h.at_ (e_var rfl))) (fun b4 => ?_) (fun b4 => ?_))
    · rw [keep_full hlt m0 (of_decide_eq_true b4)] at k
      exact fin (Fr.refl H x) h.at_ h.wl (l_lst (a_cons e_c a_nil) (by decide)) rfl rfl k
    · rw [keep_some hlt m0 (of_decide_eq_false b4)] at k
      refine s_nil ?_
      dsimp only
      refine s_seq (s_set (e_ixL (hf_letters T h.at_ (e_var rfl)) (e_sub (e_var rfl) e_c) (SqL.of (h.at_.at_ .letters)) (at_of (j := m - 1) (by omega) (refs_get hxt))) ?_)
      have lok := h.inv.wf.air lt (List.mem_of_getElem? hlt)
      dsimp only
      refine s_seq (c_meth (e_var rfl) (h.at_.at_ .house) (no_House_letter_arrives ..) (a_cons (e_var rfl) a_nil) ⟨x, s, n, t, lt, rfl, h, ht, lok, fun H2 x2 g2 w2 f2 => ?_⟩)
      dsimp only
      exact fin f2 g2 w2 (l_list (e_var rfl) (.inr (SqT.of (f2.tup h.at_ ht)))) (nv_ints _).symm rfl k
theorem ok_lose (T : Txt K mg d) : FnOk P w K mg base CX0 2 d.f_lose d.fd_lose ["house", "numbers"] (sp_lose K d) := by
  refine T.F_lose.ok sc_lose (fun vs H Q E h => ?_) (fun cdv A outer sh H vs Q E hr h => ?_)
  · obtain ⟨x, s, n, l, ns, cc, rfl, h, hl, hn, hc, k⟩ := h
    rfl
  obtain ⟨x, s, n, l, ns, cc, rfl, h, hl, hn, hc, k⟩ := h
  refine ⟨_, (pss_cons (ps_set (i := 2) sc_lose.nd rfl (Or.inl rfl) (pe_ix ix_list (pv 1) pe_int (fun _ _ => rfl)))
      (pss_cons (ps_if (pt_not (pt_val (pe_meth (pv 0) T.cl_House T.m_House_has_letter (ok_House_has_letter T) (hr.mono (by decide)) T.b_House_has_letter .nil pass0 (pa_cons (pv 2) pa_nil)))) (pss_one (ps_ret (pe_lst (pa_cons (pe_gI (by rfl) T.g_NOTHING_THERE) pa_nil)))) pss_nil)
      (pss_one (ps_ret (pe_callTy call_list_of (by rfl) T.z_list (by decide +kernel) (pa_cons (pe_bm PySem.F.plainAttrs_list PySem.F.slot_list_pop PySem.F.type_list_pop mt_popAt (pe_fld (pv 0) rfl) (pa_cons (pe_op op_sub (pv 2) pe_int) pa_nil)) pa_nil)))))), ?_⟩
  obtain ⟨m, rfl, rfl⟩ := in_5 hc
  have awl : s.air.length + s.waiting.length ≤ 100000 := Nat.le_trans h.inv.bd.air h.le
  refine s_seq (s_set (v := .int (m : Int)) (e_ixL (e_var rfl) e_c (SqL.of hl) (at_of (j := 0) rfl rfl)) ?_)
  dsimp only
  refine s_seq (s_if (tv_not (tv_B (e_has h.at_ (e_var rfl) (e_var rfl)))) (fun b => ?_) (fun b => ?_))
  · have b : (decide (1 ≤ m) && decide (m ≤ s.air.length)) = false := bnot_t b
    rw [lose_none (has_not b)] at k
    exact fin (Fr.refl H x) h.at_ h.wl (l_lst (a_cons e_c a_nil) (by decide)) rfl rfl k
  · have b : (decide (1 ≤ m) && decide (m ≤ s.air.length)) = true := bnot_f b
    obtain ⟨lt, hlt, m0⟩ := has_at b
    rw [lose_some hlt m0] at k
    obtain ⟨t, hxt, ht⟩ := h.at_.letAt hlt
    refine s_nil ?_
    dsimp only
    have h1 := h.lost (m - 1)
    have f1 := Fr.set (x' := { x with air := x.air.eraseIdx (m - 1) }) (o := .lst ((refs x.air).eraseIdx (m - 1))) h.at_ .letters rfl
    have ht1 := f1.tup h.at_ ht
    refine a_one (Q := fun vs H1 => ∃ p ys, vs = [.ref p] ∧ (SqL K H1 p ys ∨ SqT K H1 p ys) ∧ ∀ l, H1 l = none → Q (.ref l) (upd H1 l (.lst ys))) (e_pop (hf_letters T h.at_ (e_var rfl)) (e_sub (e_var rfl) e_c) (h.at_.at_ .letters) (k := m - 1) (by omega) (refs_get hxt) (by rw [h.at_.airLen]; omega) ⟨t, _, rfl, .inr (SqT.of ht1), fun r hr => ?_⟩)
    refine k _ _ r (h1.at_.same (same_new hr)) h1.wl (f1.trans (Fr.same _ (same_new hr))) (by rw [upd_same, nv_ints]) (fun i => h1.at_.free hr i) (fun b o eb nb z => ?_)
    have := (f1.st b o eb nb).1
    rw [z, hr] at this
    cases this
theorem ok_save (T : Txt K mg d) : FnOk P w K mg base CX0 5 d.f_save d.fd_save ["house", "numbers"] (sp_save K d) := by
  refine T.F_save.ok sc_save (fun vs H Q E h => ?_) (fun cdv A outer sh H vs Q E hr h => ?_)
  · obtain ⟨x, s, n, l, ns, cc, rfl, h, hl, hn, hc, k⟩ := h
    rfl
  obtain ⟨x, s, n, l, ns, cc, rfl, h, hl, hn, hc, k⟩ := h
  refine ⟨_, (pss_cons (ps_if (pt_not (pt_val (pe_dget (hu_of hr) (pe_fld (pv 0) rfl) (pe_gI (by rfl) T.g_STORE) (fun _ _ => rfl)))) (pss_one (ps_ret (pe_lst (pa_cons (pe_gI (by rfl) T.g_NOT_NOW) pa_nil)))) pss_nil)
      (pss_one (ps_ret (pe_lst (pa_cons (pe_meth0 (pv 0) T.cl_House T.m_House_store_saves (ok_House_store_saves T) (hr.mono (by decide)) T.b_House_store_saves .nil pass0) pa_nil))))), ?_⟩
  obtain ⟨rfl, rfl⟩ := in_6 hc
  refine s_seq (s_if (tv_not (tv_B (h_alive (p := 2) T h.at_ (e_var rfl) e_c (by decide) (by decide)))) (fun b => ?_) (fun b => ?_))
  · have st : Ha10.step s .save = (s, [-8]) := if_pos (by simpa using b)
    rw [st] at k
    exact fin (Fr.refl H x) h.at_ h.wl (l_lst (a_cons e_c a_nil) (by decide)) rfl rfl k
  · have st : Ha10.step s .save = (Ha10.saves s, Ha10.ints [(Ha10.saves s).air.length - s.air.length]) := if_neg (by simpa using b)
    rw [st] at k
    refine s_nil ?_
    dsimp only
    refine a_one (Q := fun vs H1 => vs.length ≤ sizeLine ∧ ∀ p, H1 p = none → Q (.ref p) (upd H1 p (.lst vs))) (c_meth (e_var rfl) (h.at_.at_ .house) (no_House_store_saves ..) a_nil ⟨x, s, n, rfl, h, fun H1 x1 g1 w1 f1 => ⟨by show 1 ≤ sizeLine; decide, fun r hr => ?_⟩⟩)
    refine k _ _ r (g1.same (same_new hr)) w1 (f1.trans (Fr.same _ (same_new hr))) ?_ (fun i => g1.free hr i) (fun b o eb nb z => ?_)
    · rw [upd_same, nv_ints]
      have e : (Ha10.saves s).air.length - s.air.length = (waitLetters s.book s.waiting).length := by
        show (s.air ++ waitLetters s.book s.waiting).length - s.air.length = _
        rw [List.length_append]
        omega
      rw [e]
      rfl
    · have := (f1.st b o eb nb).1
      rw [z, hr] at this
      cases this
theorem ok_kill (T : Txt K mg d) : FnOk P w K mg base CX0 5 d.f_kill d.fd_kill ["house", "numbers"] (sp_kill K d) := by
  refine T.F_kill.ok sc_kill (fun vs H Q E h => ?_) (fun cdv A outer sh H vs Q E hr h => ?_)
  · obtain ⟨x, s, n, l, ns, cc, rfl, h, hl, hn, hc, k⟩ := h
    rfl
  obtain ⟨x, s, n, l, ns, cc, rfl, h, hl, hn, hc, k⟩ := h
  refine ⟨_, (pss_cons (ps_set (i := 2) sc_kill.nd rfl (Or.inl rfl) (pe_ix ix_list (pv 1) pe_int (fun _ _ => rfl)))
      (pss_cons (ps_if (pt_cmpR op_notIn_seq (pv 2) (pe_glob (v := V.ref d.a_PROCESSES) (by rfl) T.g_PROCESSES rfl) (by rfl)) (pss_one (ps_ret (pe_lst (pa_cons (pe_gI (by rfl) T.g_NO_SUCH) pa_nil)))) pss_nil)
      (pss_cons (ps_if (pt_not (pt_val (pe_dget (hu_of hr) (pe_fld (pv 0) rfl) (pv 2) (fun _ _ => rfl)))) (pss_one (ps_ret (pe_lst (pa_cons (pe_gI (by rfl) T.g_NOT_NOW) pa_nil)))) pss_nil)
      (pss_cons (ps_expr (pe_meth (pv 0) T.cl_House T.m_House_process_dies (ok_House_process_dies T) (hr.mono (by decide)) T.b_House_process_dies .nil pass0 (pa_cons (pv 2) pa_nil)))
      (pss_one (ps_ret (pe_lst (pa_cons (pe_ifExp (pt_cmpR op_eq (pv 2) (pe_gI (by rfl) T.g_KEEPER) (nomark _)) pe_int pe_int) pa_nil)))))))), ?_⟩
  obtain ⟨p, rfl, rfl⟩ := in_7 hc
  refine s_seq (s_set (v := .int (p : Int)) (e_ixL (e_var rfl) e_c (SqL.of hl) (at_of (j := 0) rfl rfl)) ?_)
  dsimp only
  refine s_seq (s_if (b := !decide (1 ≤ p ∧ p ≤ 4)) (tv_is (tv_T (e_notInT (e_var rfl) e_c (T.q_PROCESSES H) rfl)) (by rw [pr_in])) (fun b => ?_) (fun b => ?_))
  · have b : ¬ (1 ≤ p ∧ p ≤ 4) := of_decide_eq_false (bnot_t b)
    have st : Ha10.step s (.kill p) = (s, [-1]) := if_pos (by omega)
    rw [st] at k
    exact fin (Fr.refl H x) h.at_ h.wl (l_lst (a_cons e_c a_nil) (by decide)) rfl rfl k
  · have b : 1 ≤ p ∧ p ≤ 4 := of_decide_eq_true (bnot_f b)
    have c0 : ¬ (p = 0 ∨ 4 < p) := by omega
    refine s_nil ?_
    dsimp only
    refine s_seq (s_if (tv_not (tv_B (h_alive T h.at_ (e_var rfl) (e_var rfl) b.1 b.2))) (fun b2 => ?_) (fun b2 => ?_))
    · have st : Ha10.step s (.kill p) = (s, [-8]) := (if_neg c0).trans (if_pos (by simpa using b2))
      rw [st] at k
      exact fin (Fr.refl H x) h.at_ h.wl (l_lst (a_cons e_c a_nil) (by decide)) rfl rfl k
    · have st : Ha10.step s (.kill p) = (Ha10.dies s p, Ha10.ints [if p = 1 then 1 else 0]) := (if_neg c0).trans (if_neg (by simpa using b2))
      rw [st] at k
      refine s_nil ?_
      dsimp only
      refine s_seq (c_meth (e_var rfl) (h.at_.at_ .house) (no_House_process_dies ..) (a_cons (e_var rfl) a_nil) ⟨x, s, n, p, rfl, h, b.1, b.2, fun H2 x2 g2 w2 f2 => ?_⟩)
      dsimp only
      refine fin f2 g2 w2 (l_lst (a_cons (e_if (v := .int ((if p = 1 then 1 else 0 : Nat) : Int)) (tv_T (e_eqI (e_var rfl) e_c)) (fun z => e_is e_c ?_) (fun z => e_is e_c ?_)) a_nil) (by show 1 ≤ sizeLine; decide)) rfl rfl k
      · have : p = 1 := by
          have := of_decide_eq_true z
          omega
        rw [if_pos this]
        rfl
      · have : ¬ p = 1 := by
          have := of_decide_eq_false z
          omega
        rw [if_neg this]
        rfl
theorem ok_mind (T : Txt K mg d) : FnOk P w K mg base CX0 5 d.f_mind d.fd_mind ["house", "numbers"] (sp_mind K d) := by
  refine T.F_mind.ok sc_mind (fun vs H Q E h => ?_) (fun cdv A outer sh H vs Q E hr h => ?_)
  · obtain ⟨x, s, n, l, ns, cc, rfl, h, hl, hn, hc, k⟩ := h
    rfl
  obtain ⟨x, s, n, l, ns, cc, rfl, h, hl, hn, hc, k⟩ := h
  refine ⟨_, (pss_cons (ps_if (pt_cmpR op_eq (pe_callB call_len_seq (by rfl) T.z_len PySem.boot_len (pa_cons (pe_fld (pv 0) rfl) pa_nil)) pe_int (nomark _)) (pss_one (ps_ret (pe_lst (pa_cons (pe_gI (by rfl) T.g_NOTHING_THERE) pa_nil)))) pss_nil)
      (pss_cons (ps_set (i := 2) sc_mind.nd rfl (Or.inl rfl) (pe_ix ix_list (pe_fld (pv 0) rfl) pe_int (fun _ _ => rfl)))
      (pss_cons (ps_expr (pe_meth0 (pv 0) T.cl_House T.m_House_keeper_minds (ok_House_keeper_minds T) (hr.mono (by decide)) T.b_House_keeper_minds .nil pass0))
      (pss_one (ps_ret (pe_lst (pa_cons (pv 2) (pa_cons (pe_ifExp (pt_val (pe_dget (hu_of hr) (pe_fld (pv 0) rfl) (pe_gI (by rfl) T.g_KEEPER) (fun _ _ => rfl))) pe_int pe_int) pa_nil)))))))), ?_⟩
  obtain ⟨rfl, rfl⟩ := in_8 hc
  refine s_seq (s_if (tv_T (e_eqI (e_len (hf_noted T h.at_ (e_var rfl)) (SqL.of (h.at_.at_ .noted))) e_c)) (fun b => ?_) (fun b => ?_))
  · have e0 : s.notes = [] := by
      have := of_decide_eq_true b
      rw [nv_len] at this
      exact List.length_eq_zero_iff.mp (by omega)
    have st : Ha10.step s .mind = (s, [-5]) := by
      unfold Ha10.step
      dsimp only
      rw [e0]
    rw [st] at k
    exact fin (Fr.refl H x) h.at_ h.wl (l_lst (a_cons e_c a_nil) (by decide)) rfl rfl k
  · obtain ⟨p, r, en⟩ : ∃ p r, s.notes = p :: r := by
      cases e : s.notes with
      | nil =>
        have := of_decide_eq_false b
        rw [nv_len, e] at this
        exact absurd rfl this
      | cons p r => exact ⟨p, r, rfl⟩
    have st : Ha10.step s .mind = (Ha10.minds s, Ha10.ints [p, Ha10.flag (Ha10.lives (Ha10.minds s) 1)]) := by
      unfold Ha10.step
      dsimp only
      rw [en]
    rw [st] at k
    refine s_nil ?_
    dsimp only
    refine s_seq (s_set (v := .int (p : Int)) (e_ixL (hf_noted T h.at_ (e_var rfl)) e_c (SqL.of (h.at_.at_ .noted)) (at_of (j := 0) rfl (nv_get (by rw [en]; rfl)))) ?_)
    dsimp only
    refine s_seq (c_meth (e_var rfl) (h.at_.at_ .house) (no_House_keeper_minds ..) a_nil ⟨x, s, n, rfl, h, by rw [en]; exact List.cons_ne_nil _ _, fun H2 x2 g2 w2 f2 => ?_⟩)
    dsimp only
    refine fin f2 g2 w2 (l_lst (a_cons (e_var rfl) (a_cons (e_if (v := .int ((Ha10.flag (Ha10.lives (Ha10.minds s) 1) : Nat) : Int)) (tv_B (h_alive (p := 1) T g2 (e_var (by rw [f2.hs]; rfl)) e_c (by decide) (by decide))) (fun z => e_is e_c ?_) (fun z => e_is e_c ?_)) a_nil)) (by show 2 ≤ sizeLine; decide)) rfl rfl k
    · rw [z]; rfl
    · rw [z]; rfl
end
end Su

namespace Su
open PySem PySem.Spec PyProof.Rows L2
section
variable {K : PySem.W.Frag} {σ : L2.St} {H : Hp} {ta tb te : TE} {D : Ends}
theorem l_cat {a : Addr} {xs ys : List V} (ha : Ev0 ta σ H (.ref a)) (h : H a = some (.lst xs)) (hb : El0 tb σ H ys) (hl : xs.length + ys.length ≤ sizeLine) : El0 (tOp rCat ta tb) σ H (xs ++ ys) :=
  fun _ q => ha _ (hb _ fun p H' hp sm e => ⟨a, p, xs, ys, rfl, rfl, sm _ _ h, e, hl, fun r hr => q r _ (sm.free hr) (sm.trans (same_new hr)) upd_same⟩)
theorem l_catR {b : Addr} {xs ys : List V} (ha : El0 ta σ H xs) (hb : ∀ H', Same H H' → Ev0 tb σ H' (.ref b)) (h : H b = some (.lst ys)) (hl : xs.length + ys.length ≤ sizeLine) : El0 (tOp rCat ta tb) σ H (xs ++ ys) :=
  fun _ q => ha _ fun p H' hp sm e => hb H' sm _ ⟨p, b, xs, ys, rfl, rfl, e, sm _ _ h, hl, fun r hr => q r _ (sm.free hr) (sm.trans (same_new hr)) upd_same⟩
theorem l_cat2 {xs ys : List V} (ha : El0 ta σ H xs) (hb : ∀ H', Same H H' → El0 tb σ H' ys) (hl : xs.length + ys.length ≤ sizeLine) : El0 (tOp rCat ta tb) σ H (xs ++ ys) :=
  fun _ q => ha _ fun p H' hp sm e => hb H' sm _ fun p2 H2 hp2 sm2 e2 => ⟨p, p2, xs, ys, rfl, rfl, sm2 _ _ e, e2, hl, fun r hr => q r _ (sm.free (sm2.free hr)) ((sm.trans sm2).trans (same_new hr)) upd_same⟩
theorem s_forL {a : Addr} {xs : List V} {g : TG} {tb : TS} (h : Ev0 ta σ H (.ref a)) (hS : SqL K H a xs) (Pv : Nat → L2.St → Hp → Prop) (h0 : Pv 0 σ H) (hl : ∀ i σ H, i ≤ xs.length → Pv i σ H → SqL K H a xs)
    (hs : ∀ i x σ H, xs[i]? = some x → Pv i σ H → g x σ H fun σ2 H2 => tb { D with nx := Pv (i + 1), ct := Pv (i + 1), bk := D.nx } σ2 H2) (hd : ∀ σ H, Pv xs.length σ H → D.nx σ H) : tFor (iList K ta) g tb D σ H :=
  h _ ⟨a, rfl, ⟨xs, hS⟩, for_list Pv h0 hl hs hd⟩
theorem s_extendT {l b : Addr} {xs zs : List V} (ho : Ev0 ta σ H (.ref l)) (he : Ev0 te σ H (.ref b)) (h : H l = some (.lst xs)) (hb : SqT K H b zs) (hl : xs.length + zs.length ≤ sizeLine) (k : D.nx σ (upd H l (.lst (xs ++ zs)))) : tDrop (tBM K "list" (rExtendT K) ta (tCons te tNil)) D σ H :=
  ho _ ⟨.inl ⟨rfl, _, SqL.of h⟩, he _ ⟨l, b, xs, zs, rfl, rfl, h, hb, hl, k⟩⟩
end
theorem flat_snoc {α : Type} {l : List α} {i : Nat} {x : α} (f : α → List Nat) (h : l[i]? = some x) : (l.take (i + 1)).flatMap f = (l.take i).flatMap f ++ f x := by
  have : l.take (i + 1) = l.take i ++ [x] := by rw [List.take_add_one, h]; rfl
  rw [this, List.flatMap_append]
  simp
theorem flat_len {α : Type} (f : α → List Nat) (m : Nat) (h : ∀ x, (f x).length ≤ m) : ∀ l : List α, (l.flatMap f).length ≤ m * l.length
  | [] => by simp
  | x :: l => by
    have := flat_len f m h l
    have := h x
    rw [List.flatMap_cons, List.length_append, List.length_cons, Nat.mul_succ]
    omega
def sp_Book_told (K : PySem.W.Frag) (d : Ad) : Sp := fun vs H Q _ => ∃ (a acc dn : Addr) (vals : List Nat) (ps : List (Addr × Ha10.Entry)), vs = [.ref a] ∧ BAt d H a acc dn vals ps ∧ vals.length = 4 ∧ ps.length ≤ 100000 ∧
  ∀ (H' : Hp) (r : Addr), H r = none → Same H H' → H' r = some (.lst (nv (Ha10.bookTold ⟨vals, ps.map (·.2)⟩))) → Q (.ref r) H'
def sp_House_round_passes (K : PySem.W.Frag) (d : Ad) : Sp := fun vs H Q _ => ∃ (x : Dec) (s : Ha10.St) (n : Nat), vs = [.ref (x.A .house)] ∧ Hs d H x s n ∧ n + 1 ≤ 100000 ∧
  ∀ (H' : Hp) (x' : Dec), HAt d H' x' (Ha10.round s) → WL x' (Ha10.round s) → Fr H x H' x' → Q .non H'
def sp_ticks (K : PySem.W.Frag) (d : Ad) : Sp := spCall 9 K d
def sp_turns (K : PySem.W.Frag) (d : Ad) : Sp := spCall 10 K d
def sp_tell_client (K : PySem.W.Frag) (d : Ad) : Sp := spCall 11 K d
def sp_tell_book (K : PySem.W.Frag) (d : Ad) : Sp := spCall 12 K d
def sp_tell_disk (K : PySem.W.Frag) (d : Ad) : Sp := spCall 13 K d
def sp_tell_process (K : PySem.W.Frag) (d : Ad) : Sp := spCall 14 K d
def sp_tell_notes (K : PySem.W.Frag) (d : Ad) : Sp := spCall 15 K d
def sp_tell_air (K : PySem.W.Frag) (d : Ad) : Sp := spCall 16 K d
section
variable {P : Program} {w : World} {K : PySem.W.Frag} {mg : Str → Option Value} {base : Heap} {d : Ad}
theorem ok_Book_told (T : Txt K mg d) : FnOk P w K mg base CX0 1 d.f_Book_told d.fd_Book_told ["self"] (sp_Book_told K d) := by
  refine T.F_Book_told.ok sc_Book_told (fun vs H Q E h => ?_) (fun cdv A outer sh H vs Q E hr h => ?_)
  · obtain ⟨a, acc, dn, vals, ps, rfl, B, hv, hl, k⟩ := h
    rfl
  obtain ⟨a, acc, dn, vals, ps, rfl, B, hv, hl, k⟩ := h
  refine ⟨_, (pss_cons (ps_set (i := 1) sc_Book_told.nd rfl (Or.inl rfl) (pe_op op_cat (pe_fld (pv 0) rfl) (pe_lst (pa_cons (pe_callB call_len_seq (by rfl) T.z_len PySem.boot_len (pa_cons (pe_fld (pv 0) rfl) pa_nil)) pa_nil))))
      (pss_cons (ps_for PassesOwn.never rfl (pi_list (pe_fld (pv 0) rfl)) (pg_name (i := 2) sc_Book_told.nd rfl (Or.inl rfl)) (pss_one (ps_expr (pe_bm PySem.F.plainAttrs_list PySem.F.slot_list_extend PySem.F.type_list_extend mt_extendT (pv 1) (pa_cons (pv 2) pa_nil)))))
      (pss_one (ps_ret (pv 1))))), ?_⟩
  obtain ⟨dx, ha⟩ := B.ob
  refine s_seq (s_setL (l_cat (e_fld (e_var rfl) ha T.cl_Book T.na_Book_accounts (lk_Book_accounts ..)) B.ac (l_lst (a_cons (e_len (e_fld (e_var rfl) ha T.cl_Book T.na_Book_done (lk_Book_done ..)) (SqL.of B.dl)) a_nil) (by show 1 ≤ sizeLine; decide)) (by rw [nv_len, hv]; show 5 ≤ sizeLine; decide)) fun r H1 hr s1 e1 => ?_)
  have e1 : H1 r = some (.lst (nv (vals ++ [ps.length]))) := by
    rw [e1, nv_app, refs_len]
    rfl
  have B1 := B.same s1
  dsimp only
  refine s_seq (s_forL (K := K) (a := dn) (xs := refs ps) (e_fld (e_var rfl) (s1 _ _ ha) T.cl_Book T.na_Book_done (lk_Book_done ..)) (SqL.of B1.dl) (fun i σ' H' => ∃ v, σ' = [some (.ref a), some (.ref r), v] ∧ Same H H' ∧ H' r = some (.lst (nv ((vals ++ [ps.length]) ++ (ps.take i).flatMap fun y => entTold y.2)))) ⟨none, rfl, s1, by rw [e1]; simp⟩ (fun i σ' H' _ ⟨v, _, sm, _⟩ => SqL.of (sm _ _ B.dl)) ?_ ?_)
  · rintro i y σ' H' hi ⟨v, rfl, sm, e⟩
    obtain ⟨y, hy, rfl⟩ : ∃ p, ps[i]? = some p ∧ y = V.ref p.1 := by
      unfold refs at hi
      rw [List.getElem?_map] at hi
      cases q : ps[i]? with
      | none => rw [q] at hi; cases hi
      | some p => rw [q] at hi; exact ⟨p, rfl, (Option.some.inj hi).symm⟩
    have ht := sm _ _ (B.et y (List.mem_of_getElem? hy))
    have fl := flat_len (fun y : Addr × Ha10.Entry => entTold y.2) 6 (fun y => Nat.le_refl 6) (ps.take i)
    refine s_extendT (e_var rfl) (e_var rfl) e (SqT.of ht) ?_ ?_
    · rw [nv_len, nv_len, List.length_append, List.length_append, hv]
      refine sz ?_
      have : (ps.take i).length ≤ ps.length := by rw [List.length_take]; omega
      have : (entTold y.2).length = 6 := rfl
      simp only [List.length_cons, List.length_nil]
      omega
    · refine ⟨_, rfl, same_mut sm hr, ?_⟩
      rw [upd_same, flat_snoc (fun y : Addr × Ha10.Entry => entTold y.2) hy, ← nv_app, List.append_assoc]
  · rintro σ' H' ⟨v, rfl, sm, e⟩
    rw [refs_len, List.take_length] at e
    dsimp only
    refine s_ret (v := .ref r) (e_var rfl) (k _ r hr sm ?_)
    rw [e]
    unfold Ha10.bookTold
    simp only [List.append_assoc, List.length_map, List.flatMap_map]
    rfl
theorem ok_House_round_passes (T : Txt K mg d) : FnOk P w K mg base CX0 6 d.f_House_round_passes d.fd_House_round_passes ["self"] (sp_House_round_passes K d) := by
  refine T.F_House_round_passes.ok sc_House_round_passes (fun vs H Q E h => ?_) (fun cdv A outer sh H vs Q E hr h => ?_)
  · obtain ⟨x, s, n, rfl, h, hn, k⟩ := h
    rfl
  obtain ⟨x, s, n, rfl, h, hn, k⟩ := h
  refine ⟨_, (pss_cons (ps_if (pt_cmpR op_gt (pe_callB call_len_seq (by rfl) T.z_len PySem.boot_len (pa_cons (pe_fld (pv 0) rfl) pa_nil)) pe_int (nomark _)) (pss_one (ps_expr (pe_meth (pv 0) T.cl_House T.m_House_letter_arrives (ok_House_letter_arrives T) (hr.mono (by decide)) T.b_House_letter_arrives .nil pass0 (pa_cons (pe_bm PySem.F.plainAttrs_list PySem.F.slot_list_pop PySem.F.type_list_pop mt_popAt (pe_fld (pv 0) rfl) (pa_cons pe_int pa_nil)) pa_nil)))) pss_nil)
      (pss_one (ps_if (pt_val (pe_dget (hu_of hr) (pe_fld (pv 0) rfl) (pe_gI (by rfl) T.g_STORE) (fun _ _ => rfl))) (pss_one (ps_expr (pe_meth0 (pv 0) T.cl_House T.m_House_store_saves (ok_House_store_saves T) (hr.mono (by decide)) T.b_House_store_saves .nil pass0))) pss_nil))), ?_⟩
  have awl : s.air.length + s.waiting.length ≤ 100000 := Nat.le_trans h.inv.bd.air h.le
  -- behind the letter's arrival
  have rest : ∀ (H1 : Hp) (x1 : Dec), Hs d H1 x1 (roundT s) (n + 1) → Fr H x H1 x1 → tIfS (tB (tDGet (tFld K (tVar 0) "living") (tC (.int 2)))) (tDrop (tMeth d.c_House "store_saves" (sp_House_store_saves K d) [] E0 (tVar 0) tNil)) tNext { nx := fun _ H' => Q .non H', rt := Q } (start ["self"] [.ref (x.A .house)]) H1 := fun H1 x1 h1 f1 => by
    have hv : Ev0 (tVar 0) (start ["self"] [.ref (x.A .house)]) H1 (.ref (x1.A .house)) := e_var (by rw [f1.hs]; rfl)
    refine s_if (tv_B (h_alive (p := 2) T h1.at_ hv e_c (by decide) (by decide))) (fun b => ?_) (fun b => ?_)
    · have st : Ha10.round s = Ha10.saves (roundT s) := (round_eq s).trans (if_pos b)
      rw [st] at k
      exact c_meth hv (h1.at_.at_ .house) (no_House_store_saves ..) a_nil ⟨x1, _, _, rfl, h1, fun H2 x2 g2 w2 f2 => k H2 x2 g2 w2 (f1.trans f2)⟩
    · have st : Ha10.round s = roundT s := (round_eq s).trans (if_neg (by rw [b]; exact Bool.false_ne_true))
      rw [st] at k
      exact s_nil (k H1 x1 h1.at_ h1.wl f1)
  refine s_seq (s_if (tv_T (e_gt (e_len (hf_letters T h.at_ (e_var rfl)) (SqL.of (h.at_.at_ .letters))) e_c)) (fun b => ?_) (fun b => ?_))
  · obtain ⟨l, r, ea⟩ : ∃ l r, s.air = l :: r := by
      cases e : s.air with
      | nil =>
        have := of_decide_eq_true b
        rw [h.at_.airLen, e] at this
        exact absurd this (by decide)
      | cons l r => exact ⟨l, r, rfl⟩
    have hlt : s.air[0]? = some l := by rw [ea]; rfl
    obtain ⟨t, hxt, ht⟩ := h.at_.letAt hlt
    have h1 := h.lost 0
    have e0 : s.air.eraseIdx 0 = r := by rw [ea]; rfl
    have f1 := Fr.set (x' := { x with air := x.air.eraseIdx 0 }) (o := .lst ((refs x.air).eraseIdx 0)) h.at_ .letters rfl
    have ht1 := f1.tup h.at_ ht
    have lok := h.inv.wf.air l (List.mem_of_getElem? hlt)
    have er : roundT s = Ha10.arrives { s with air := s.air.eraseIdx 0 } l := by
      rw [e0]
      unfold roundT
      rw [ea]
    refine c_methX (e_var rfl) (h.at_.at_ .house) (no_House_letter_arrives ..) (a_one (e_pop (hf_letters T h.at_ (e_var rfl)) e_c (h.at_.at_ .letters) (k := 0) rfl (refs_get hxt) (by rw [h.at_.airLen]; omega) ?_))
    refine ⟨{ x with air := x.air.eraseIdx 0 }, _, n, t, l, rfl, h1, ht1, lok, fun H2 x2 g2 w2 f2 => ?_⟩
    rw [← er] at g2 w2
    exact rest H2 x2 ⟨g2, w2, inv_roundT h.inv, hn⟩ (f1.trans f2)
  · have ea : s.air = [] := by
      have := of_decide_eq_false b
      rw [h.at_.airLen] at this
      exact List.length_eq_zero_iff.mp (by omega)
    have er : roundT s = s := by
      unfold roundT
      rw [ea]
    refine s_nil (rest H x ⟨?_, ?_, inv_roundT h.inv, hn⟩ (Fr.refl H x))
    · rw [er]; exact h.at_
    · rw [er]; exact h.wl
theorem ok_ticks (T : Txt K mg d) : FnOk P w K mg base CX0 1 d.f_ticks d.fd_ticks ["house", "numbers"] (sp_ticks K d) := by
  refine T.F_ticks.ok sc_ticks (fun vs H Q E h => ?_) (fun cdv A outer sh H vs Q E hr h => ?_)
  · obtain ⟨x, s, n, l, ns, cc, rfl, h, hl, hn, hc, k⟩ := h
    rfl
  obtain ⟨x, s, n, l, ns, cc, rfl, h, hl, hn, hc, k⟩ := h
  refine ⟨_, (pss_cons (ps_set (i := 2) sc_ticks.nd rfl (Or.inl rfl) (pe_ix ix_list (pv 1) pe_int (fun _ _ => rfl)))
      (pss_cons (ps_if (pt_cmpR op_gt (pv 2) (pe_gI (by rfl) T.g_MOST_TICKS) (nomark _)) (pss_one (ps_ret (pe_lst (pa_cons (pe_gI (by rfl) T.g_NO_SUCH) pa_nil)))) pss_nil)
      (pss_cons (ps_fldaug (pv 0) (pv 2) in_add)
      (pss_one (ps_ret (pe_lst (pa_cons (pe_fld (pv 0) rfl) pa_nil))))))), ?_⟩
  obtain ⟨m, rfl, rfl⟩ := in_9 hc
  refine s_seq (s_set (v := .int (m : Int)) (e_ixL (e_var rfl) e_c (SqL.of hl) (at_of (j := 0) rfl rfl)) ?_)
  dsimp only
  refine s_seq (s_if (tv_T (e_gt (e_var rfl) e_c)) (fun b => ?_) (fun b => ?_))
  · have st : Ha10.step s (.ticks m) = (s, [-1]) := if_pos (by have := of_decide_eq_true b; omega)
    rw [st] at k
    exact fin (Fr.refl H x) h.at_ h.wl (l_lst (a_cons e_c a_nil) (by decide)) rfl rfl k
  · have st : Ha10.step s (.ticks m) = ({ s with now := s.now + m }, Ha10.ints [s.now + m]) := if_neg (by have := of_decide_eq_false b; omega)
    rw [st] at k
    refine s_nil ?_
    dsimp only
    refine s_seq (s_fldaug (e_var rfl) (e_var rfl) (h.at_.at_ .house) T.cl_House T.na_House_time (lk_House_time ..) (hF_few ..) ?_)
    have em : putF "time" (.int ((s.now : Int) + (m : Int))) (hFields x.A s.now) = hFields x.A (s.now + m) := (pt_House_time ..).trans (by rw [← Int.natCast_add]; rfl)
    rw [em]
    have g := h.at_.time (s.now + m)
    have f := Fr.set (x' := x) (o := .ins d.c_House (x.dx .house) (hFields x.A (s.now + m))) h.at_ .house rfl
    dsimp only
    exact fin f g h.wl (l_lst (a_cons (hf_time T g (e_var rfl)) a_nil) (by show 1 ≤ sizeLine; decide)) rfl rfl k
theorem ok_turns (T : Txt K mg d) : FnOk P w K mg base CX0 7 d.f_turns d.fd_turns ["house", "numbers"] (sp_turns K d) := by
  refine T.F_turns.ok sc_turns (fun vs H Q E h => ?_) (fun cdv A outer sh H vs Q E hr h => ?_)
  · obtain ⟨x, s, n, l, ns, cc, rfl, h, hl, hn, hc, k⟩ := h
    rfl
  obtain ⟨x, s, n, l, ns, cc, rfl, h, hl, hn, hc, k⟩ := h
  refine ⟨_, (pss_cons (ps_set (i := 2) sc_turns.nd rfl (Or.inl rfl) (pe_ix ix_list (pv 1) pe_int (fun _ _ => rfl)))
      (pss_cons (ps_if (pt_cmpR op_gt (pv 2) (pe_gI (by rfl) T.g_MOST_ROUNDS) (nomark _)) (pss_one (ps_ret (pe_lst (pa_cons (pe_gI (by rfl) T.g_NO_SUCH) pa_nil)))) pss_nil)
      (pss_cons (ps_for PassesOwn.never rfl (pi_range1 (by rfl) T.z_range (pa_cons (pv 2) pa_nil)) (pg_name (i := 3) sc_turns.nd rfl (Or.inl rfl)) (pss_one (ps_expr (pe_meth0 (pv 0) T.cl_House T.m_House_round_passes (ok_House_round_passes T) (hr.mono (by decide)) T.b_House_round_passes .nil pass0))))
      (pss_one (ps_ret (pe_lst (pa_cons (pe_callB call_len_seq (by rfl) T.z_len PySem.boot_len (pa_cons (pe_fld (pv 0) rfl) pa_nil)) pa_nil))))))), ?_⟩
  obtain ⟨m, rfl, rfl⟩ := in_10 hc
  refine s_seq (s_set (v := .int (m : Int)) (e_ixL (e_var rfl) e_c (SqL.of hl) (at_of (j := 0) rfl rfl)) ?_)
  dsimp only
  refine s_seq (s_if (tv_T (e_gt (e_var rfl) e_c)) (fun b => ?_) (fun b => ?_))
  · have st : Ha10.step s (.turns m) = (s, [-1]) := if_pos (by have := of_decide_eq_true b; omega)
    rw [st] at k
    exact fin (Fr.refl H x) h.at_ h.wl (l_lst (a_cons e_c a_nil) (by decide)) rfl rfl k
  · have m200 : ¬ 200 < m := by have := of_decide_eq_false b; omega
    have st : Ha10.step s (.turns m) = (Ha10.rounds m s, Ha10.ints [(Ha10.rounds m s).air.length]) := if_neg m200
    rw [st] at k
    refine s_nil ?_
    dsimp only
    have rs : ∀ i, Ha10.rounds (i + 1) s = Ha10.round (Ha10.rounds i s) := by
      intro i
      have : ∀ (j : Nat) (t : Ha10.St), Ha10.rounds j (Ha10.round t) = Ha10.round (Ha10.rounds j t) := by
        intro j
        induction j with
        | zero => intro t; rfl
        | succ j ih => intro t; exact ih (Ha10.round t)
      exact this i s
    refine s_seq ⟨_, rfl, (m : Int), rfl, by omega, by omega, for_range (lo := 0) (n := ((m : Int)).toNat) (fun i σ' H' => ∃ (v : Option V) (x' : Dec), σ' = [some (.ref (x.A .house)), some (.ref l), some (.int (m : Int)), v] ∧ HAt d H' x' (Ha10.rounds i s) ∧ WL x' (Ha10.rounds i s) ∧ Fr H x H' x') ⟨none, x, rfl, h.at_, h.wl, Fr.refl H x⟩ ?_ ?_⟩
    · rintro i σ' H' hi ⟨v, x', rfl, g, wl, f⟩
      refine c_meth (e_var (v := .ref (x'.A .house)) (by rw [f.hs]; rfl)) (g.at_ .house) (no_House_round_passes ..) a_nil ⟨x', _, n + i, rfl, ⟨g, wl, inv_rounds i h.inv, by omega⟩, by omega, fun H2 x2 g2 w2 f2 => ⟨_, x2, rfl, ?_, ?_, f.trans f2⟩⟩
      · rw [rs]; exact g2
      · rw [rs]; exact w2
    · rintro σ' H' ⟨v, x', rfl, g, wl, f⟩
      have em : ((m : Int)).toNat = m := by omega
      rw [em] at g wl
      dsimp only
      refine fin f g wl (l_lst (a_cons (e_len (hf_letters T g (e_var (by rw [f.hs]; rfl))) (SqL.of (g.at_ .letters))) a_nil) (by show 1 ≤ sizeLine; decide)) ?_ rfl k
      rw [g.airLen]
      rfl
theorem ok_tell_client (T : Txt K mg d) : FnOk P w K mg base CX0 1 d.f_tell_client d.fd_tell_client ["house", "numbers"] (sp_tell_client K d) := by
  refine T.F_tell_client.ok sc_tell_client (fun vs H Q E h => ?_) (fun cdv A outer sh H vs Q E hr h => ?_)
  · obtain ⟨x, s, n, l, ns, cc, rfl, h, hl, hn, hc, k⟩ := h
    rfl
  obtain ⟨x, s, n, l, ns, cc, rfl, h, hl, hn, hc, k⟩ := h
  refine ⟨_, (pss_cons (ps_set (i := 2) sc_tell_client.nd rfl (Or.inl rfl) (pe_ix ix_list (pv 1) pe_int (fun _ _ => rfl)))
      (pss_cons (ps_if (pt_cmp (pc_dnotin (hu_of hr) (pv 2) (pe_fld (pv 0) rfl)) (by rfl)) (pss_one (ps_ret (pe_lst (pa_cons (pe_gI (by rfl) T.g_NO_SUCH) pa_nil)))) pss_nil)
      (pss_cons (ps_set (i := 3) sc_tell_client.nd rfl (Or.inl rfl) (pe_dget (hu_of hr) (pe_fld (pv 0) rfl) (pv 2) (fun _ _ => rfl)))
      (pss_one (ps_ret (pe_op op_cat (pe_lst (pa_cons (pe_fld (pv 3) rfl) (pa_cons (pe_ifExp (pt_val (pe_fld (pv 3) rfl)) pe_int pe_int) (pa_cons (pe_callB call_len_seq (by rfl) T.z_len PySem.boot_len (pa_cons (pe_fld (pv 3) rfl) pa_nil)) pa_nil)))) (pe_fld (pv 3) rfl))))))), ?_⟩
  obtain ⟨c, rfl, rfl⟩ := in_11 hc
  refine s_seq (s_set (v := .int (c : Int)) (e_ixL (e_var rfl) e_c (SqL.of hl) (at_of (j := 0) rfl rfl)) ?_)
  dsimp only
  refine s_seq (s_if (b := !Ha10.isClient c) (tv_is (tv_B (e_dnotin (e_var rfl) (hf_clients T h.at_ (e_var rfl)) (h.at_.at_ .clients))) (by rw [cl_in])) (fun b => ?_) (fun b => ?_))
  · have st : Ha10.step s (.client c) = (s, [-1]) := congrArg (Prod.mk s) (if_pos (bnot_t b))
    rw [st] at k
    exact fin (Fr.refl H x) h.at_ h.wl (l_lst (a_cons e_c a_nil) (by decide)) rfl rfl k
  · have b := bnot_f b
    have ok := isC b
    have st : Ha10.step s (.client c) = (s, Ha10.ints ([(Ha10.client s c).num, Ha10.flag (Ha10.client s c).waits, (Ha10.client s c).heard.length] ++ (Ha10.client s c).heard)) := congrArg (Prod.mk s) (if_neg (by rw [b]; exact fun z => nomatch z))
    rw [st] at k
    have hh := h.inv.bd.heard _ (client_mem h.inv.wf.clients ok)
    have := h.le
    refine s_nil ?_
    dsimp only
    refine s_seq (s_set (h_client T h.at_ (e_var rfl) (e_var rfl) ok) ?_)
    dsimp only
    refine fin (Fr.refl H x) h.at_ h.wl (l_catR (xs := nv [(Ha10.client s c).num, Ha10.flag (Ha10.client s c).waits, (Ha10.client s c).heard.length]) (l_lst (a_cons (e_fld (e_var rfl) (h.at_.cli ok) T.cl_Client T.na_Client_made (lk_Client_made ..)) (a_cons (e_if (v := .int ((Ha10.flag (Ha10.client s c).waits : Nat) : Int)) (tv_B (e_fld (e_var rfl) (h.at_.cli ok) T.cl_Client T.na_Client_waits (lk_Client_waits ..))) (fun z => e_is e_c (by rw [z]; rfl)) (fun z => e_is e_c (by rw [z]; rfl))) (a_cons (e_is (e_len (e_fld (e_var rfl) (h.at_.cli ok) T.cl_Client T.na_Client_heard (lk_Client_heard ..)) (SqL.of (h.at_.hrd ok))) (by rw [nv_len])) a_nil))) (by show 3 ≤ sizeLine; decide)) (fun H' sm => e_fld (e_var rfl) ((h.at_.same sm).cli ok) T.cl_Client T.na_Client_heard (lk_Client_heard ..)) (h.at_.hrd ok) (by rw [nv_len, nv_len]; refine sz ?_; simp only [List.length_cons, List.length_nil]; omega)) ?_ rfl k
    rw [nv_ints, nv_app]
theorem ok_tell_book (T : Txt K mg d) : FnOk P w K mg base CX0 2 d.f_tell_book d.fd_tell_book ["house", "numbers"] (sp_tell_book K d) := by
  refine T.F_tell_book.ok sc_tell_book (fun vs H Q E h => ?_) (fun cdv A outer sh H vs Q E hr h => ?_)
  · obtain ⟨x, s, n, l, ns, cc, rfl, h, hl, hn, hc, k⟩ := h
    rfl
  obtain ⟨x, s, n, l, ns, cc, rfl, h, hl, hn, hc, k⟩ := h
  refine ⟨_, (pss_cons (ps_if (pt_not (pt_val (pe_dget (hu_of hr) (pe_fld (pv 0) rfl) (pe_gI (by rfl) T.g_KEEPER) (fun _ _ => rfl)))) (pss_one (ps_ret (pe_lst (pa_cons (pe_gI (by rfl) T.g_NOT_NOW) pa_nil)))) pss_nil)
      (pss_one (ps_ret (pe_op op_cat (pe_lst (pa_cons (pe_callB call_len_seq (by rfl) T.z_len PySem.boot_len (pa_cons (pe_fld (pv 0) rfl) pa_nil)) pa_nil)) (pe_meth0 (pe_fld (pv 0) rfl) T.cl_Book T.m_Book_told (ok_Book_told T) (hr.mono (by decide)) T.b_Book_told .nil pass0))))), ?_⟩
  obtain ⟨rfl, rfl⟩ := in_12 hc
  refine s_seq (s_if (tv_not (tv_B (h_alive (p := 1) T h.at_ (e_var rfl) e_c (by decide) (by decide)))) (fun b => ?_) (fun b => ?_))
  · have st : Ha10.step s .book = (s, [-8]) := congrArg (Prod.mk s) (if_pos (bnot_t b))
    rw [st] at k
    exact fin (Fr.refl H x) h.at_ h.wl (l_lst (a_cons e_c a_nil) (by decide)) rfl rfl k
  · have b := bnot_f b
    have st : Ha10.step s .book = (s, Ha10.ints (s.waiting.length :: Ha10.bookTold s.book)) := congrArg (Prod.mk s) (if_neg (by rw [b]; exact fun z => nomatch z))
    rw [st] at k
    have ew : x.wait.length = s.waiting.length := by
      have := congrArg List.length h.wl
      rw [List.length_map, wl_len fun w hw => (h.inv.wf.wait w hw).1] at this
      exact this.symm
    have bl := h.inv.bd.book
    have := h.le
    have fl := flat_len (fun e : Ha10.Entry => entTold e) 6 (fun y => Nat.le_refl 6) s.book.done
    have tl : (Ha10.bookTold s.book).length ≤ 700000 := by
      have : (Ha10.bookTold s.book).length = s.book.values.length + (1 + (s.book.done.flatMap fun e => entTold e).length) := by
        unfold Ha10.bookTold
        rw [List.length_append, List.length_cons, Nat.add_comm 1]
        rfl
      rw [this, h.inv.wf.book.len]
      omega
    refine s_nil ?_
    dsimp only
    refine fin (Fr.refl H x) h.at_ h.wl (l_cat2 (xs := nv [s.waiting.length]) (ys := nv (Ha10.bookTold s.book)) (l_lst (a_cons (e_is (e_len (hf_waiting T h.at_ (e_var rfl)) (SqL.of (h.at_.at_ .waiting))) (by rw [refs_len, ew])) a_nil) (by show 1 ≤ sizeLine; decide)) (fun H' sm Q' q' => c_meth (hf_book T (h.at_.same sm) (e_var rfl)) ((h.at_.same sm).at_ .book) (no_Book_told ..) a_nil ⟨_, _, _, _, _, rfl, (h.at_.same sm).bookAt, h.inv.wf.book.len, by rw [h.at_.bdLen]; omega, fun H2 r hr sm2 e2 => q' r H2 hr sm2 (by rw [e2, h.at_.bookIs])⟩) (by rw [nv_len, nv_len]; refine sz ?_; simp only [List.length_cons, List.length_nil]; omega)) ?_ rfl k
    rw [nv_ints]
    rfl
theorem ok_tell_disk (T : Txt K mg d) : FnOk P w K mg base CX0 2 d.f_tell_disk d.fd_tell_disk ["house", "numbers"] (sp_tell_disk K d) := by
  refine T.F_tell_disk.ok sc_tell_disk (fun vs H Q E h => ?_) (fun cdv A outer sh H vs Q E hr h => ?_)
  · obtain ⟨x, s, n, l, ns, cc, rfl, h, hl, hn, hc, k⟩ := h
    rfl
  obtain ⟨x, s, n, l, ns, cc, rfl, h, hl, hn, hc, k⟩ := h
  refine ⟨_, (pss_one (ps_ret (pe_meth0 (pe_fld (pv 0) rfl) T.cl_Book T.m_Book_told (ok_Book_told T) (hr.mono (by decide)) T.b_Book_told .nil pass0))), ?_⟩
  obtain ⟨rfl, rfl⟩ := in_13 hc
  have bl := h.inv.bd.disk
  have := h.le
  refine fin (rs := nv (Ha10.bookTold s.disk)) (Fr.refl H x) h.at_ h.wl (fun Q' q' => c_meth (hf_disk T h.at_ (e_var rfl)) (h.at_.at_ .disk) (no_Book_told ..) a_nil ⟨_, _, _, _, _, rfl, h.at_.diskAt, h.inv.wf.disk.len, by rw [h.at_.ddLen]; omega, fun H2 r hr sm2 e2 => q' r H2 hr sm2 (by rw [e2, h.at_.diskIs])⟩) ?_ rfl k
  exact (nv_ints _).symm
theorem ok_tell_process (T : Txt K mg d) : FnOk P w K mg base CX0 1 d.f_tell_process d.fd_tell_process ["house", "numbers"] (sp_tell_process K d) := by
  refine T.F_tell_process.ok sc_tell_process (fun vs H Q E h => ?_) (fun cdv A outer sh H vs Q E hr h => ?_)
  · obtain ⟨x, s, n, l, ns, cc, rfl, h, hl, hn, hc, k⟩ := h
    rfl
  obtain ⟨x, s, n, l, ns, cc, rfl, h, hl, hn, hc, k⟩ := h
  refine ⟨_, (pss_cons (ps_set (i := 2) sc_tell_process.nd rfl (Or.inl rfl) (pe_ix ix_list (pv 1) pe_int (fun _ _ => rfl)))
      (pss_cons (ps_if (pt_cmpR op_notIn_seq (pv 2) (pe_glob (v := V.ref d.a_PROCESSES) (by rfl) T.g_PROCESSES rfl) (by rfl)) (pss_one (ps_ret (pe_lst (pa_cons (pe_gI (by rfl) T.g_NO_SUCH) pa_nil)))) pss_nil)
      (pss_one (ps_ret (pe_lst (pa_cons (pe_ifExp (pt_val (pe_dget (hu_of hr) (pe_fld (pv 0) rfl) (pv 2) (fun _ _ => rfl))) pe_int pe_int) (pa_cons (pe_dget (hu_of hr) (pe_fld (pv 0) rfl) (pv 2) (fun _ _ => rfl)) pa_nil))))))), ?_⟩
  obtain ⟨p, rfl, rfl⟩ := in_14 hc
  refine s_seq (s_set (v := .int (p : Int)) (e_ixL (e_var rfl) e_c (SqL.of hl) (at_of (j := 0) rfl rfl)) ?_)
  dsimp only
  refine s_seq (s_if (b := !decide (1 ≤ p ∧ p ≤ 4)) (tv_is (tv_T (e_notInT (e_var rfl) e_c (T.q_PROCESSES H) rfl)) (by rw [pr_in])) (fun b => ?_) (fun b => ?_))
  · have b : ¬ (1 ≤ p ∧ p ≤ 4) := of_decide_eq_false (bnot_t b)
    have st : Ha10.step s (.process p) = (s, [-1]) := congrArg (Prod.mk s) (if_pos (by omega))
    rw [st] at k
    exact fin (Fr.refl H x) h.at_ h.wl (l_lst (a_cons e_c a_nil) (by decide)) rfl rfl k
  · have b : 1 ≤ p ∧ p ≤ 4 := of_decide_eq_true (bnot_f b)
    have st : Ha10.step s (.process p) = (s, Ha10.ints [Ha10.flag (Ha10.lives s p), (Ha10.proc s p).life]) := congrArg (Prod.mk s) (if_neg (by omega))
    rw [st] at k
    refine s_nil ?_
    dsimp only
    exact fin (Fr.refl H x) h.at_ h.wl (l_lst (a_cons (e_if (v := .int ((Ha10.flag (Ha10.lives s p) : Nat) : Int)) (tv_B (h_alive T h.at_ (e_var rfl) (e_var rfl) b.1 b.2)) (fun z => e_is e_c (by rw [z]; rfl)) (fun z => e_is e_c (by rw [z]; rfl))) (a_cons (h_life T h.at_ (e_var rfl) (e_var rfl) b.1 b.2) a_nil)) (by show 2 ≤ sizeLine; decide)) rfl rfl k
theorem ok_tell_notes (T : Txt K mg d) : FnOk P w K mg base CX0 1 d.f_tell_notes d.fd_tell_notes ["house", "numbers"] (sp_tell_notes K d) := by
  refine T.F_tell_notes.ok sc_tell_notes (fun vs H Q E h => ?_) (fun cdv A outer sh H vs Q E hr h => ?_)
  · obtain ⟨x, s, n, l, ns, cc, rfl, h, hl, hn, hc, k⟩ := h
    rfl
  obtain ⟨x, s, n, l, ns, cc, rfl, h, hl, hn, hc, k⟩ := h
  refine ⟨_, (pss_one (ps_ret (pe_op op_cat (pe_op op_cat (pe_op op_cat (pe_lst (pa_cons (pe_callB call_len_seq (by rfl) T.z_len PySem.boot_len (pa_cons (pe_fld (pv 0) rfl) pa_nil)) pa_nil)) (pe_fld (pv 0) rfl)) (pe_lst (pa_cons (pe_callB call_len_seq (by rfl) T.z_len PySem.boot_len (pa_cons (pe_fld (pv 0) rfl) pa_nil)) pa_nil))) (pe_fld (pv 0) rfl)))), ?_⟩
  obtain ⟨rfl, rfl⟩ := in_15 hc
  have b1 := h.inv.bd.notes
  have b2 := h.inv.bd.times
  have := h.le
  refine fin (Fr.refl H x) h.at_ h.wl (l_catR (xs := nv ([s.notes.length] ++ s.notes ++ [s.times.length])) (ys := nv s.times)
    (l_cat2 (xs := nv ([s.notes.length] ++ s.notes)) (ys := nv [s.times.length])
      (l_catR (xs := nv [s.notes.length]) (ys := nv s.notes) (l_lst (a_cons (e_is (e_len (hf_noted T h.at_ (e_var rfl)) (SqL.of (h.at_.at_ .noted))) (by rw [nv_len])) a_nil) (by show 1 ≤ sizeLine; decide)) (fun H' sm => hf_noted T (h.at_.same sm) (e_var rfl)) (h.at_.at_ .noted) (by rw [nv_len, nv_len]; refine sz ?_; simp only [List.length_cons, List.length_nil]; omega) |> fun z => by rw [nv_app]; exact z)
      (fun H' sm => l_lst (a_cons (e_is (e_len (hf_times T (h.at_.same sm) (e_var rfl)) (SqL.of ((h.at_.same sm).at_ .times))) (by rw [nv_len])) a_nil) (by show 1 ≤ sizeLine; decide)) (by rw [nv_len, nv_len]; refine sz ?_; simp only [List.length_append, List.length_cons, List.length_nil]; omega) |> fun z => by rw [nv_app]; exact z)
    (fun H' sm => hf_times T (h.at_.same sm) (e_var rfl)) (h.at_.at_ .times) (by rw [nv_len, nv_len]; refine sz ?_; simp only [List.length_append, List.length_cons, List.length_nil]; omega)) ?_ rfl k
  show _ = (Ha10.ints (s.notes.length :: s.notes ++ s.times.length :: s.times)).map V.int
  rw [nv_ints, ← nv_app]
  simp
theorem ok_tell_air (T : Txt K mg d) : FnOk P w K mg base CX0 1 d.f_tell_air d.fd_tell_air ["house", "numbers"] (sp_tell_air K d) := by
  refine T.F_tell_air.ok sc_tell_air (fun vs H Q E h => ?_) (fun cdv A outer sh H vs Q E hr h => ?_)
  · obtain ⟨x, s, n, l, ns, cc, rfl, h, hl, hn, hc, k⟩ := h
    rfl
  obtain ⟨x, s, n, l, ns, cc, rfl, h, hl, hn, hc, k⟩ := h
  refine ⟨_, (pss_cons (ps_set (i := 2) sc_tell_air.nd rfl (Or.inl rfl) (pe_lst (pa_cons (pe_callB call_len_seq (by rfl) T.z_len PySem.boot_len (pa_cons (pe_fld (pv 0) rfl) pa_nil)) pa_nil)))
      (pss_cons (ps_for PassesOwn.never rfl (pi_list (pe_fld (pv 0) rfl)) (pg_name (i := 3) sc_tell_air.nd rfl (Or.inl rfl)) (pss_one (ps_expr (pe_bm PySem.F.plainAttrs_list PySem.F.slot_list_extend PySem.F.type_list_extend mt_extendT (pv 2) (pa_cons (pv 3) pa_nil)))))
      (pss_one (ps_ret (pv 2))))), ?_⟩
  obtain ⟨rfl, rfl⟩ := in_16 hc
  have awl : s.air.length + s.waiting.length ≤ 100000 := Nat.le_trans h.inv.bd.air h.le
  have xl : x.air.length = s.air.length := by rw [h.at_.tk.air, List.length_map]
  refine s_seq (s_setL (xs := nv [s.air.length]) (l_lst (a_cons (e_is (e_len (hf_letters T h.at_ (e_var rfl)) (SqL.of (h.at_.at_ .letters))) (by rw [h.at_.airLen])) a_nil) (by show 1 ≤ sizeLine; decide)) fun r H1 hr s1 e1 => ?_)
  have h1 := h.at_.same s1
  dsimp only
  refine s_seq (s_forL (K := K) (a := x.A .letters) (xs := refs x.air) (hf_letters T h1 (e_var rfl)) (SqL.of (h1.at_ .letters)) (fun i σ' H' => ∃ v, σ' = [some (.ref (x.A .house)), some (.ref l), some (.ref r), v] ∧ Same H H' ∧ H' r = some (.lst (nv ([s.air.length] ++ (x.air.take i).flatMap fun y => Ha10.letterTold y.2)))) ⟨none, rfl, s1, by rw [e1]; simp⟩ (fun i σ' H' _ ⟨v, _, sm, _⟩ => SqL.of (sm _ _ (h.at_.at_ .letters))) ?_ ?_)
  · rintro i y σ' H' hi ⟨v, rfl, sm, e⟩
    obtain ⟨y, hy, rfl⟩ : ∃ p, x.air[i]? = some p ∧ y = V.ref p.1 := by
      unfold refs at hi
      rw [List.getElem?_map] at hi
      cases q : x.air[i]? with
      | none => rw [q] at hi; cases hi
      | some p => rw [q] at hi; exact ⟨p, rfl, (Option.some.inj hi).symm⟩
    have ht := sm _ _ (h.at_.tk.airT y (List.mem_of_getElem? hy))
    have l9 : ∀ l : Ha10.Letter, (Ha10.letterTold l).length ≤ 9 := fun l => by
      cases l <;> (show _ ≤ 9; simp [Ha10.letterTold, Ha10.askTold])
    have fl := flat_len (fun y : Addr × Ha10.Letter => Ha10.letterTold y.2) 9 (fun y => l9 y.2) (x.air.take i)
    refine s_extendT (e_var rfl) (e_var rfl) e (SqT.of ht) ?_ ?_
    · rw [nv_len, nv_len, List.length_append]
      refine sz ?_
      have : (x.air.take i).length ≤ x.air.length := by rw [List.length_take]; omega
      have := l9 y.2
      simp only [List.length_cons, List.length_nil]
      omega
    · refine ⟨_, rfl, same_mut sm hr, ?_⟩
      rw [upd_same, flat_snoc (fun y : Addr × Ha10.Letter => Ha10.letterTold y.2) hy, ← nv_app, List.append_assoc]
  · rintro σ' H' ⟨v, rfl, sm, e⟩
    rw [refs_len, List.take_length] at e
    dsimp only
    refine s_ret (v := .ref r) (e_var rfl) (k _ x r (h.at_.same sm) h.wl (Fr.same x sm) ?_ (fun i => h.at_.free hr i) (fun b o eb nb => ne_of_none eb hr))
    rw [e]
    show _ = some (HO.lst ((Ha10.ints (s.air.length :: s.air.flatMap Ha10.letterTold)).map V.int))
    rw [nv_ints, h.at_.tk.air]
    simp [List.flatMap_map]
end
end Su

namespace Su
open PySem PySem.Spec PyProof.Rows L2
def fnList (d : Ad) : List Addr := [d.f_begin, d.f_ask, d.f_again, d.f_take, d.f_keep, d.f_lose, d.f_save, d.f_kill, d.f_mind, d.f_ticks, d.f_turns, d.f_tell_client, d.f_tell_book, d.f_tell_disk, d.f_tell_process, d.f_tell_notes, d.f_tell_air]
def S_CALLS (K : PySem.W.Frag) (d : Ad) (f : Addr) (sp : Sp) : Prop := ∃ N, (fnList d)[N]? = some f ∧ sp = spCall N K d
theorem Held_CALLS {P : Program} {w : World} {K : PySem.W.Frag} {mg : Str → Option Value} {base : Heap} {d : Ad} (T : Txt K mg d) : ∀ f sp, S_CALLS K d f sp → ∃ j, j ≤ 7 ∧ Held P w K mg base j f sp := by
  rintro f sp ⟨N, hN, rfl⟩
  match N, hN with
  | 0, h =>
    have h : some d.f_begin = some f := h
    cases h
    exact ⟨5, by decide, ⟨d.fd_begin, _, ok_begin T, T.k_begin, T.b_begin⟩⟩
  | 1, h =>
    have h : some d.f_ask = some f := h
    cases h
    exact ⟨2, by decide, ⟨d.fd_ask, _, ok_ask T, T.k_ask, T.b_ask⟩⟩
  | 2, h =>
    have h : some d.f_again = some f := h
    cases h
    exact ⟨2, by decide, ⟨d.fd_again, _, ok_again T, T.k_again, T.b_again⟩⟩
  | 3, h =>
    have h : some d.f_take = some f := h
    cases h
    exact ⟨6, by decide, ⟨d.fd_take, _, ok_take T, T.k_take, T.b_take⟩⟩
  | 4, h =>
    have h : some d.f_keep = some f := h
    cases h
    exact ⟨6, by decide, ⟨d.fd_keep, _, ok_keep T, T.k_keep, T.b_keep⟩⟩
  | 5, h =>
    have h : some d.f_lose = some f := h
    cases h
    exact ⟨2, by decide, ⟨d.fd_lose, _, ok_lose T, T.k_lose, T.b_lose⟩⟩
  | 6, h =>
    have h : some d.f_save = some f := h
    cases h
    exact ⟨5, by decide, ⟨d.fd_save, _, ok_save T, T.k_save, T.b_save⟩⟩
  | 7, h =>
    have h : some d.f_kill = some f := h
    cases h
    exact ⟨5, by decide, ⟨d.fd_kill, _, ok_kill T, T.k_kill, T.b_kill⟩⟩
  | 8, h =>
    have h : some d.f_mind = some f := h
    cases h
    exact ⟨5, by decide, ⟨d.fd_mind, _, ok_mind T, T.k_mind, T.b_mind⟩⟩
  | 9, h =>
    have h : some d.f_ticks = some f := h
    cases h
    exact ⟨1, by decide, ⟨d.fd_ticks, _, ok_ticks T, T.k_ticks, T.b_ticks⟩⟩
  | 10, h =>
    have h : some d.f_turns = some f := h
    cases h
    exact ⟨7, by decide, ⟨d.fd_turns, _, ok_turns T, T.k_turns, T.b_turns⟩⟩
  | 11, h =>
    have h : some d.f_tell_client = some f := h
    cases h
    exact ⟨1, by decide, ⟨d.fd_tell_client, _, ok_tell_client T, T.k_tell_client, T.b_tell_client⟩⟩
  | 12, h =>
    have h : some d.f_tell_book = some f := h
    cases h
    exact ⟨2, by decide, ⟨d.fd_tell_book, _, ok_tell_book T, T.k_tell_book, T.b_tell_book⟩⟩
  | 13, h =>
    have h : some d.f_tell_disk = some f := h
    cases h
    exact ⟨2, by decide, ⟨d.fd_tell_disk, _, ok_tell_disk T, T.k_tell_disk, T.b_tell_disk⟩⟩
  | 14, h =>
    have h : some d.f_tell_process = some f := h
    cases h
    exact ⟨1, by decide, ⟨d.fd_tell_process, _, ok_tell_process T, T.k_tell_process, T.b_tell_process⟩⟩
  | 15, h =>
    have h : some d.f_tell_notes = some f := h
    cases h
    exact ⟨1, by decide, ⟨d.fd_tell_notes, _, ok_tell_notes T, T.k_tell_notes, T.b_tell_notes⟩⟩
  | 16, h =>
    have h : some d.f_tell_air = some f := h
    cases h
    exact ⟨1, by decide, ⟨d.fd_tell_air, _, ok_tell_air T, T.k_tell_air, T.b_tell_air⟩⟩
  | n + 17, h => cases h
def sp_answer_call (K : PySem.W.Frag) (d : Ad) : Sp := fun vs H Q _ => ∃ (x : Dec) (s : Ha10.St) (n N : Nat) (l : Addr) (ns : List Nat) (c : Ha10.Call), vs = [.ref (x.A .house), .int (N : Int), .ref l] ∧ Hs d H x s n ∧ H l = some (.lst (nv ns)) ∧ (n ≤ 20000 ∧ ∀ i, x.A i ≠ l) ∧ Ha10Neutral.callIn [N :: ns] = some c ∧
  spEnd d H x (Ha10.step s c).1 (Ha10.step s c).2 Q
def spAns (K : PySem.W.Frag) : Sp := fun vs H Q _ => ∃ (a : Addr) (ns : List Int), vs = [.ref a] ∧ SqL K H a (ns.map V.int) ∧ ns.length ≤ 700 ∧ PyHa10.answers_asked ns = true ∧
  ∀ (H' : Hp) (p : Addr), H' p = some (.lst ((PyHa10.answers ns).map V.int)) → Q (.ref p) H'
def sp_answers (K : PySem.W.Frag) (d : Ad) : Sp := spAns K
/-- the list that was handed in: not the house's own, not the list that is told, and still there -/
def Kept (K : PySem.W.Frag) (H : Hp) (x : Dec) (td a : Addr) (xs : List V) : Prop :=
  (Rd H a (.lst xs) ∧ (∀ i, x.A i ≠ a) ∧ a ≠ td) ∨ ∀ H', SqL K H' a xs
theorem Kept.sq {K : PySem.W.Frag} {H : Hp} {x : Dec} {td a : Addr} {xs : List V} (h : Kept K H x td a xs) : SqL K H a xs := by
  rcases h with h | h
  · exact .inl h.1
  · exact h H
theorem Kept.fr {K : PySem.W.Frag} {H H' : Hp} {x x' : Dec} {td a : Addr} {xs : List V} (f : Fr H x H' x') (h : Kept K H x td a xs) : Kept K H' x' td a xs := by
  rcases h with ⟨h, n, t⟩ | h
  · rcases h with h | ⟨o, h⟩
    · obtain ⟨k1, k2⟩ := f.st a _ h n
      exact .inl ⟨.inl k1, k2, t⟩
    · obtain ⟨k1, k2⟩ := f.st a _ h n
      exact .inl ⟨.inr ⟨o, k1⟩, k2, t⟩
  · exact .inr h
theorem Kept.upd {K : PySem.W.Frag} {H : Hp} {x : Dec} {td a : Addr} {xs : List V} {o : HO} (h : Kept K H x td a xs) : Kept K (upd H td o) x td a xs := by
  rcases h with ⟨h, n, t⟩ | h
  · rcases h with h | ⟨u, h⟩
    · exact .inl ⟨.inl (by rw [upd_ne t]; exact h), n, t⟩
    · exact .inl ⟨.inr ⟨u, by rw [upd_ne t]; exact h⟩, n, t⟩
  · exact .inr h
theorem HAt.out {d : Ad} {H : Hp} {x : Dec} {s : Ha10.St} (h : HAt d H x s) {p : Addr} {o : HO} (np : ∀ i, x.A i ≠ p) (ho : ∃ ys, H p = some (.lst ys)) : HAt d (upd H p o) x s := by
  obtain ⟨ys, ho⟩ := ho
  refine ⟨h.inj, fun i => by rw [upd_ne (np i)]; exact h.at_ i, h.tk.tups fun b xs e => ?_⟩
  rw [upd_ne (ne_of e ho (by intro z; cases z))]
  exact e
theorem cut_mid {a b c : List V} {i j : Int} (hi : i = (a.length : Int)) (hj : j = ((a.length + b.length : Nat) : Int)) : cutV (a ++ b ++ c) (some i) (some j) = b := by
  subst hi hj
  have z1 : HT.sIx (a ++ b ++ c).length 0 (some (a.length : Int)) = a.length := by
    unfold HT.sIx
    simp only [List.length_append]
    rw [if_neg (by omega)]
    omega
  have z2 : HT.sIx (a ++ b ++ c).length (a ++ b ++ c).length (some ((a.length + b.length : Nat) : Int)) = a.length + b.length := by
    unfold HT.sIx
    simp only [List.length_append]
    rw [if_neg (by omega)]
    omega
  unfold cutV
  rw [z1, z2, List.append_assoc, List.drop_left, Nat.add_sub_cancel_left, List.take_left]
section
variable {σ : L2.St} {H : Hp} {ta : TE} {tr : TA}
theorem c_callX {sp : Sp} {Q : VK} (k : tr σ H fun vs H1 => sp (vs ++ []) H1 Q E0) : tCall sp [] E0 tr σ H Q := k
theorem a_consX {x : V} {Q : List V → Hp → Prop} (h : Ev0 ta σ H x) (k : tr σ H fun vs H2 => Q (x :: vs) H2) : tCons ta tr σ H Q := h _ k
theorem a_oneL {xs : List V} {Q : List V → Hp → Prop} (h : El0 ta σ H xs) (k : ∀ p H', H p = none → Same H H' → H' p = some (.lst xs) → Q [.ref p] H') : tCons ta tNil σ H Q := h _ k
end
section
variable {P : Program} {w : World} {K : PySem.W.Frag} {mg : Str → Option Value} {base : Heap} {d : Ad}
/-- House() -/
theorem c_mkHouse {σ : L2.St} {H : Hp} {Q : VK} (k : ∀ (H' : Hp) (x : Dec), HAt d H' x Ha10.init → WL x Ha10.init → (∀ b o, H b = some o → H' b = some o ∧ ∀ i, x.A i ≠ b) → Q (.ref (x.A .house)) H') : tMake d.c_House (sp_House_init K d) [] E0 tNil σ H Q := by
  intro p dx np ndx nex
  refine ⟨p, dx, rfl, upd_same, fun H' x hp g wl st => ⟨rfl, ?_⟩⟩
  rw [← hp]
  refine k H' x g wl fun b o e => st b o ?_ (ne_of_none e np)
  rw [upd_ne (ne_of_none e np), upd_ne (ne_of_none e ndx)]
  exact e
theorem ok_answer_call (T : Txt K mg d) : FnOk P w K mg base CX0 8 d.f_answer_call d.fd_answer_call ["house", "call", "numbers"] (sp_answer_call K d) := by
  refine T.F_answer_call.ok sc_answer_call (fun vs H Q E h => ?_) (fun cdv A outer sh H vs Q E hr h => ?_)
  · obtain ⟨x, s, n, N, l, ns, c, rfl, h, hl, hn, hc, k⟩ := h
    rfl
  obtain ⟨x, s, n, N, l, ns, c, rfl, h, hl, hn, hc, k⟩ := h
  refine ⟨_, (pss_one (ps_ret (pe_callE (Held_CALLS T) (hr.mono (by decide)) (pe_ix ix_tup (pe_glob (v := V.ref d.a_CALLS) (by rfl) T.g_CALLS rfl) (pv 1) (fun _ _ => rfl)) (pa_cons (pv 0) (pa_cons (pv 2) pa_nil))))), ?_⟩
  have hN : N < 17 := (List.getElem?_eq_some_iff.mp (num_of hc)).1
  have hf : (fnList d)[N]? = some ((fnList d)[N]'hN) := List.getElem?_eq_getElem hN
  generalize (fnList d)[N]'hN = f at hf
  have hq : ((fnList d).map V.ref)[N]? = some (.ref f) := by
    rw [List.getElem?_map, hf]
    rfl
  exact e_ixT (xs := (fnList d).map V.ref) e_c (e_var rfl) (T.q_CALLS H) (at_of rfl hq) _ ⟨f, _, rfl, ⟨N, hf, rfl⟩, (a_cons (e_var rfl) (a_cons (e_var rfl) a_nil)) _ ⟨x, s, n, l, ns, c, rfl, h, hl, hn, hc, k⟩⟩
theorem ok_answers (T : Txt K mg d) : FnOk P w K mg base CX0 9 d.f_answers d.fd_answers ["calls"] (sp_answers K d) := by
  refine T.F_answers.ok sc_answers (fun vs H Q E h => ?_) (fun cdv A outer sh H vs Q E hr h => ?_)
  · obtain ⟨a, l, rfl, hS, hlen, hask, k⟩ := h
    rfl
  obtain ⟨a, l, rfl, hS, hlen, hask, k⟩ := h
  refine ⟨_, (pss_cons (ps_set (i := 1) sc_answers.nd rfl (Or.inl rfl) (pe_make0 T.mk_House (ok_House_init T) (hr.mono (by decide)) (by rfl) T.gc_House T.b_House_init .nil pass0))
      (pss_cons (ps_set (i := 2) sc_answers.nd rfl (Or.inl rfl) (pe_lst pa_nil))
      (pss_cons (ps_set (i := 3) sc_answers.nd rfl (Or.inl rfl) pe_int)
      (pss_cons (ps_while PassesOwn.never (pt_cmpR op_lt (pv 3) (pe_callB call_len_seq (by rfl) T.z_len PySem.boot_len (pa_cons (pv 0) pa_nil)) (nomark _)) (pss_cons (ps_set (i := 4) sc_answers.nd rfl (Or.inl rfl) (pe_ix ix_list (pv 0) (pv 3) (fun _ _ => rfl)))
      (pss_cons (ps_set (i := 5) sc_answers.nd rfl (Or.inl rfl) (pe_op op_add (pe_op op_add (pv 3) pe_int) (pe_ix ix_tup (pe_glob (v := V.ref d.a_NUMBERS) (by rfl) T.g_NUMBERS rfl) (pv 4) (fun _ _ => rfl))))
      (pss_cons (ps_set (i := 6) sc_answers.nd rfl (Or.inl rfl) (pe_call (ok_answer_call T) (hr.mono (by decide)) (by rfl) T.gf_answer_call T.k_answer_call T.b_answer_call .nil pass0 (pa_cons (pv 1) (pa_cons (pv 4) (pa_cons (pe_slice sl_list (pv 0) (po_some (pe_op op_add (pv 3) pe_int)) (po_some (pv 5))) pa_nil)))))
      (pss_cons (ps_expr (pe_bm PySem.F.plainAttrs_list PySem.F.slot_list_append PySem.F.type_list_append mt_append (pv 2) (pa_cons (pe_callB call_len_seq (by rfl) T.z_len PySem.boot_len (pa_cons (pv 6) pa_nil)) pa_nil)))
      (pss_cons (ps_expr (pe_bm PySem.F.plainAttrs_list PySem.F.slot_list_extend PySem.F.type_list_extend mt_extend (pv 2) (pa_cons (pv 6) pa_nil)))
      (pss_one (ps_set (i := 3) sc_answers.nd rfl (Or.inl rfl) (pv 5)))))))))
      (pss_one (ps_ret (pv 2))))))), ?_⟩
  obtain ⟨raw, L⟩ := line_of hask
  refine s_seq (c_mkHouse fun H1 x0 g0 w0 st0 => ?_)
  dsimp only
  refine s_seq (s_setL (l_lst a_nil (by decide)) fun td H2 ntd s2 e2 => ?_)
  dsimp only
  refine s_seq (s_set (v := .int 0) e_c ?_)
  dsimp only
  have ntd0 : ∀ b o, H b = some o → b ≠ td := fun b o e => ne_of_none (st0 b o e).1 ntd
  have K0 : Kept K H2 x0 td a (l.map V.int) := by
    rcases hS with h | h
    · rcases h with h | ⟨o, h⟩
      · exact .inl ⟨.inl (s2 _ _ (st0 _ _ h).1), (st0 _ _ h).2, ntd0 _ _ h⟩
      · exact .inl ⟨.inr ⟨o, s2 _ _ (st0 _ _ h).1⟩, (st0 _ _ h).2, ntd0 _ _ h⟩
    · exact .inr fun _ => .inr h
  let W : Nat → L2.St → Hp → Prop := fun m σ' H' => ∃ (dn rest : List (List (List Int))) (x : Dec) (v4 v5 v6 : Option V), m = rest.length ∧ raw = dn ++ rest ∧
    σ' = [some (.ref a), some (.ref (x.A .house)), some (.ref td), some (.int ((PyFlat.put dn).length : Int)), v4, v5, v6] ∧ HAt d H' x (after Ha10.init dn) ∧ WL x (after Ha10.init dn) ∧ H' td = some (.lst ((toldOf dn).map V.int)) ∧ (∀ i, x.A i ≠ td) ∧ Kept K H' x td a (l.map V.int)
  refine s_seq ⟨W, ⟨_, [], raw, x0, none, none, none, rfl, rfl, rfl, g0.same s2, w0, e2, fun i => g0.free ntd i, K0⟩, ?_⟩
  rintro m σ' H' ⟨dn, rest, x, v4, v5, v6, rfl, er, rfl, g, wl, et, nt, Kp⟩
  have elen : l.length = (PyFlat.put dn).length + (PyFlat.put rest).length := by rw [L.put, er, put_app, List.length_append]
  refine (tv_T (e_lt (e_var rfl) (e_len (e_var rfl) Kp.sq))) _ ?_
  rw [List.length_map]
  cases rest with
  | nil =>
    have e0 : decide (((PyFlat.put dn).length : Int) < (l.length : Int)) = false := by
      refine decide_eq_false ?_
      have : (PyFlat.put ([] : List (List (List Int)))).length = 0 := rfl
      omega
    rw [e0]
    refine iteF ?_
    dsimp only
    refine s_ret (v := .ref td) (e_var rfl) (k _ td ?_)
    rw [L.ans, er, List.append_nil]
    exact et
  | cons c rest =>
    have mc : c ∈ raw := by rw [er]; exact List.mem_append_right _ List.mem_cons_self
    obtain ⟨N, ns, cl, gc⟩ := L.good c mc
    have ep : PyFlat.put (c :: rest) = ((N : Int) :: ns.map fun (n : Nat) => (n : Int)) ++ PyFlat.put rest := by
      show PyFlat.put1 c ++ PyFlat.put rest = _
      rw [put1_good gc]
    have eplen : (PyFlat.put (c :: rest)).length = 1 + ns.length + (PyFlat.put rest).length := by
      rw [ep, List.length_append, List.length_cons, List.length_map]
      omega
    have e1 : decide (((PyFlat.put dn).length : Int) < (l.length : Int)) = true := decide_eq_true (by omega)
    rw [e1]
    refine iteT ⟨W rest.length, fun σ' H' h => ⟨rest.length, Nat.lt_succ_self _, h⟩, ?_⟩
    have el : l.map V.int = ((PyFlat.put dn).map V.int ++ [.int (N : Int)]) ++ nv ns ++ (PyFlat.put rest).map V.int := by
      rw [L.put, er, put_app, ep, List.map_append, List.map_append, List.map_cons, List.map_map, List.append_assoc, List.append_assoc]
      rfl
    have dlen : (dn ++ [c]).length ≤ 100 := by
      have := L.most
      rw [er] at this
      simp only [List.length_append, List.length_cons, List.length_nil] at this ⊢
      omega
    have inv : Inv (0 + 200 * dn.length) (after Ha10.init dn) := inv_after dn (fun e he => L.good e (by rw [er]; exact List.mem_append_left _ he)) inv_init
    -- call = calls[place]
    refine s_seq (s_set (v := .int (N : Int)) (e_ixL (e_var rfl) (e_var rfl) Kp.sq (at_of (j := (PyFlat.put dn).length) rfl ?_)) ?_)
    · rw [el]
      rw [List.getElem?_append_left (by simp only [List.length_append, List.length_map, List.length_cons, List.length_nil, nv_len]; omega), List.getElem?_append_left (by simp only [List.length_append, List.length_map, List.length_cons, List.length_nil]; omega), List.getElem?_append_right (by rw [List.length_map]; omega), List.length_map, Nat.sub_self]
      rfl
    dsimp only
    -- behind = place + 1 + NUMBERS[call]
    have hnum : (nv nums)[N]? = some (.int (ns.length : Int)) := nv_get (num_of gc.of)
    refine s_seq (s_set (e_add (e_add (e_var rfl) e_c) (e_ixT (xs := nv nums) e_c (e_var rfl) (T.q_NUMBERS H') (at_of rfl hnum))) ?_)
    dsimp only
    -- answer = answer_call(house, call, calls[place + 1:behind])
    refine s_seq (c_callX (a_consX (e_var rfl) (a_consX (e_var rfl) (a_oneL (l_slice (e_var rfl) (e_add (e_var rfl) e_c) (e_var rfl) Kp.sq) fun q H3 nq s3 e3 => ?_))))
    have e3 : H3 q = some (.lst (nv ns)) := by
      rw [e3, el]
      refine congrArg (fun z => some (HO.lst z)) (cut_mid ?_ ?_)
      · simp only [List.length_append, List.length_map, List.length_cons, List.length_nil]
        omega
      · simp only [List.length_append, List.length_map, List.length_cons, List.length_nil, nv_len]
        omega
    have hs : Hs d H3 x (after Ha10.init dn) (0 + 200 * dn.length) := ⟨g.same s3, wl, inv, by
      simp only [List.length_append, List.length_cons, List.length_nil] at dlen
      omega⟩
    refine ⟨x, _, _, N, q, ns, cl, rfl, hs, e3, ⟨by simp only [List.length_append, List.length_cons, List.length_nil] at dlen; omega, fun i => g.free nq i⟩, gc.of, fun H4 x4 r g4 w4 f4 er4 nr4 nb4 => ?_⟩
    have f04 := (Fr.same x s3).trans f4
    have td3 : H3 td = some (.lst ((toldOf dn).map V.int)) := s3 _ _ et
    obtain ⟨td4, ntd4⟩ := f4.st td _ td3 nt
    have ntr : td ≠ r := nb4 td _ td3 nt
    have Kp4 := Kp.fr f04
    have tle : (toldOf (dn ++ [c])).length ≤ 10000000 := by
      refine Nat.le_trans ?_ L.short
      have := toldOf_le (dn ++ [c]) rest
      rw [List.append_assoc] at this
      rw [er]
      exact this
    have tl : (toldOf (dn ++ [c])).length = (toldOf dn).length + 1 + (Ha10.step (after Ha10.init dn) cl).2.length := by
      rw [toldOf_snoc gc, List.length_append, List.length_append]
      rfl
    dsimp only
    -- told.append(len(answer))
    refine s_seq (s_append (e_var rfl) (e_len (e_var rfl) (SqL.of er4)) td4 (by rw [List.length_map]; exact Nat.lt_of_le_of_lt (Nat.le_trans (by omega) tle) (by decide)) ?_)
    have td5 : ∀ o, upd H4 td o td = some o := fun o => upd_same
    dsimp only
    -- told.extend(answer)
    refine s_seq (s_extend (e_var rfl) (e_var rfl) (td5 _) (by rw [upd_ne ntr.symm]; exact er4) (by
      simp only [List.length_append, List.length_map, List.length_cons, List.length_nil]
      refine Nat.le_trans ?_ (Nat.le_trans tle (by decide))
      omega) ?_)
    dsimp only
    -- place = behind
    refine s_set (e_var rfl) ?_
    dsimp only
    refine ⟨dn ++ [c], rest, x4, some (.int (N : Int)), some (.int (((PyFlat.put dn).length : Int) + 1 + (ns.length : Int))), some (.ref r), rfl, by rw [er, List.append_assoc]; rfl, ?_, ?_, ?_, ?_, ntd4, Kp4.upd.upd⟩
    · have eh : x4.A .house = x.A .house := f4.hs
      have ez : (((PyFlat.put dn).length : Int) + 1 + (ns.length : Int)) = ((PyFlat.put (dn ++ [c])).length : Int) := by
        have : PyFlat.put [c] = PyFlat.put1 c ++ [] := rfl
        rw [put_app, this, put1_good gc]
        simp only [List.length_append, List.length_map, List.length_cons, List.length_nil]
        omega
      rw [eh, ← ez]
      rfl
    · rw [after_snoc gc]
      exact (g4.out ntd4 ⟨_, td4⟩).out ntd4 ⟨_, upd_same⟩
    · rw [after_snoc gc]
      exact w4
    · rw [upd_same, toldOf_snoc gc]
      simp only [List.map_append, List.map_cons, List.map_nil, List.length_map]
end
end Su

namespace Su
open PySem PySem.Spec PyProof.Rows L2
open PySem.W (Codec)
theorem txt_mk {K : PySem.W.Frag} {h : Heap} {mg : Str → Option Value} {c_Book c_Client c_House f_Book_init f_Book_copy f_Book_last f_Book_answer_to f_Book_told f_Book_do_request f_Book_change_account f_Client_init f_House_init f_House_is_full f_House_has_letter f_House_send_request f_House_letter_arrives f_House_request_arrives f_House_question_arrives f_House_reply_arrives f_House_answer_arrives f_House_store_is_asked f_House_reply_to f_House_store_saves f_House_round_passes f_House_process_dies f_House_go_down f_House_forget f_House_process_lives f_House_keeper_minds f_House_come_up f_begin f_ask f_again f_take f_keep f_lose f_save f_kill f_mind f_ticks f_turns f_tell_client f_tell_book f_tell_disk f_tell_process f_tell_notes f_tell_air f_answer_call f_answers a_SERVERS a_PROCESSES a_CALLS a_NUMBERS : Addr} (X : K.In h) (G : h.Ns mainGlobals mg)
    {od_Book_init an_Book_init od_Book_copy an_Book_copy od_Book_last an_Book_last od_Book_answer_to an_Book_answer_to od_Book_told an_Book_told od_Book_do_request an_Book_do_request od_Book_change_account an_Book_change_account od_Client_init an_Client_init od_House_init an_House_init od_House_is_full an_House_is_full od_House_has_letter an_House_has_letter od_House_send_request an_House_send_request od_House_letter_arrives an_House_letter_arrives od_House_request_arrives an_House_request_arrives od_House_question_arrives an_House_question_arrives od_House_reply_arrives an_House_reply_arrives od_House_answer_arrives an_House_answer_arrives od_House_store_is_asked an_House_store_is_asked od_House_reply_to an_House_reply_to od_House_store_saves an_House_store_saves od_House_round_passes an_House_round_passes od_House_process_dies an_House_process_dies od_House_go_down an_House_go_down od_House_forget an_House_forget od_House_process_lives an_House_process_lives od_House_keeper_minds an_House_keeper_minds od_House_come_up an_House_come_up od_begin an_begin od_ask an_ask od_again an_again od_take an_take od_keep an_keep od_lose an_lose od_save an_save od_kill an_kill od_mind an_mind od_ticks an_ticks od_turns an_turns od_tell_client an_tell_client od_tell_book an_tell_book od_tell_disk an_tell_disk od_tell_process an_tell_process od_tell_notes an_tell_notes od_tell_air an_tell_air od_answer_call an_answer_call od_answers an_answers od_SERVERS od_PROCESSES od_CALLS od_NUMBERS : Option Addr} {sl_Book_init sl_Book_copy sl_Book_last sl_Book_answer_to sl_Book_told sl_Book_do_request sl_Book_change_account sl_Client_init sl_House_init sl_House_is_full sl_House_has_letter sl_House_send_request sl_House_letter_arrives sl_House_request_arrives sl_House_question_arrives sl_House_reply_arrives sl_House_answer_arrives sl_House_store_is_asked sl_House_reply_to sl_House_store_saves sl_House_round_passes sl_House_process_dies sl_House_go_down sl_House_forget sl_House_process_lives sl_House_keeper_minds sl_House_come_up sl_begin sl_ask sl_again sl_take sl_keep sl_lose sl_save sl_kill sl_mind sl_ticks sl_turns sl_tell_client sl_tell_book sl_tell_disk sl_tell_process sl_tell_notes sl_tell_air sl_answer_call sl_answers sl_SERVERS sl_PROCESSES sl_CALLS sl_NUMBERS : Array (Option Value)} {oc_Book_init kV_Book_init dc_Book_init pm_Book_init cd_Book_init ct_Book_init oc_Book_copy kV_Book_copy dc_Book_copy pm_Book_copy cd_Book_copy ct_Book_copy oc_Book_last kV_Book_last dc_Book_last pm_Book_last cd_Book_last ct_Book_last oc_Book_answer_to kV_Book_answer_to dc_Book_answer_to pm_Book_answer_to cd_Book_answer_to ct_Book_answer_to oc_Book_told kV_Book_told dc_Book_told pm_Book_told cd_Book_told ct_Book_told oc_Book_do_request kV_Book_do_request dc_Book_do_request pm_Book_do_request cd_Book_do_request ct_Book_do_request oc_Book_change_account kV_Book_change_account dc_Book_change_account pm_Book_change_account cd_Book_change_account ct_Book_change_account oc_Client_init kV_Client_init dc_Client_init pm_Client_init cd_Client_init ct_Client_init oc_House_init kV_House_init dc_House_init pm_House_init cd_House_init ct_House_init oc_House_is_full kV_House_is_full dc_House_is_full pm_House_is_full cd_House_is_full ct_House_is_full oc_House_has_letter kV_House_has_letter dc_House_has_letter pm_House_has_letter cd_House_has_letter ct_House_has_letter oc_House_send_request kV_House_send_request dc_House_send_request pm_House_send_request cd_House_send_request ct_House_send_request oc_House_letter_arrives kV_House_letter_arrives dc_House_letter_arrives pm_House_letter_arrives cd_House_letter_arrives ct_House_letter_arrives oc_House_request_arrives kV_House_request_arrives dc_House_request_arrives pm_House_request_arrives cd_House_request_arrives ct_House_request_arrives oc_House_question_arrives kV_House_question_arrives dc_House_question_arrives pm_House_question_arrives cd_House_question_arrives ct_House_question_arrives oc_House_reply_arrives kV_House_reply_arrives dc_House_reply_arrives pm_House_reply_arrives cd_House_reply_arrives ct_House_reply_arrives oc_House_answer_arrives kV_House_answer_arrives dc_House_answer_arrives pm_House_answer_arrives cd_House_answer_arrives ct_House_answer_arrives oc_House_store_is_asked kV_House_store_is_asked dc_House_store_is_asked pm_House_store_is_asked cd_House_store_is_asked ct_House_store_is_asked oc_House_reply_to kV_House_reply_to dc_House_reply_to pm_House_reply_to cd_House_reply_to ct_House_reply_to oc_House_store_saves kV_House_store_saves dc_House_store_saves pm_House_store_saves cd_House_store_saves ct_House_store_saves oc_House_round_passes kV_House_round_passes dc_House_round_passes pm_House_round_passes cd_House_round_passes ct_House_round_passes oc_House_process_dies kV_House_process_dies dc_House_process_dies pm_House_process_dies cd_House_process_dies ct_House_process_dies oc_House_go_down kV_House_go_down dc_House_go_down pm_House_go_down cd_House_go_down ct_House_go_down oc_House_forget kV_House_forget dc_House_forget pm_House_forget cd_House_forget ct_House_forget oc_House_process_lives kV_House_process_lives dc_House_process_lives pm_House_process_lives cd_House_process_lives ct_House_process_lives oc_House_keeper_minds kV_House_keeper_minds dc_House_keeper_minds pm_House_keeper_minds cd_House_keeper_minds ct_House_keeper_minds oc_House_come_up kV_House_come_up dc_House_come_up pm_House_come_up cd_House_come_up ct_House_come_up oc_begin kV_begin dc_begin pm_begin cd_begin ct_begin oc_ask kV_ask dc_ask pm_ask cd_ask ct_ask oc_again kV_again dc_again pm_again cd_again ct_again oc_take kV_take dc_take pm_take cd_take ct_take oc_keep kV_keep dc_keep pm_keep cd_keep ct_keep oc_lose kV_lose dc_lose pm_lose cd_lose ct_lose oc_save kV_save dc_save pm_save cd_save ct_save oc_kill kV_kill dc_kill pm_kill cd_kill ct_kill oc_mind kV_mind dc_mind pm_mind cd_mind ct_mind oc_ticks kV_ticks dc_ticks pm_ticks cd_ticks ct_ticks oc_turns kV_turns dc_turns pm_turns cd_turns ct_turns oc_tell_client kV_tell_client dc_tell_client pm_tell_client cd_tell_client ct_tell_client oc_tell_book kV_tell_book dc_tell_book pm_tell_book cd_tell_book ct_tell_book oc_tell_disk kV_tell_disk dc_tell_disk pm_tell_disk cd_tell_disk ct_tell_disk oc_tell_process kV_tell_process dc_tell_process pm_tell_process cd_tell_process ct_tell_process oc_tell_notes kV_tell_notes dc_tell_notes pm_tell_notes cd_tell_notes ct_tell_notes oc_tell_air kV_tell_air dc_tell_air pm_tell_air cd_tell_air ct_tell_air oc_answer_call kV_answer_call dc_answer_call pm_answer_call cd_answer_call ct_answer_call oc_answers kV_answers dc_answers pm_answers cd_answers ct_answers : Value} {t_ADD t_TELL t_KEEPER t_STORE t_SERVERS_0 t_SERVERS_1 n_SERVERS t_PROCESSES_0 t_PROCESSES_1 t_PROCESSES_2 t_PROCESSES_3 n_PROCESSES t_REQUEST t_TO_STORE t_FROM_STORE t_TO_CLIENT t_NO_SUCH t_NOTHING_THERE t_TOO_MANY t_NOT_NOW t_MOST_WHAT t_MOST_ACCOUNT t_MOST_MUCH t_MOST_LETTERS t_MOST_STARTS t_LONGEST_AGO t_MOST_TICKS t_MOST_ROUNDS n_CALLS t_NUMBERS_0 t_NUMBERS_1 t_NUMBERS_2 t_NUMBERS_3 t_NUMBERS_4 t_NUMBERS_5 t_NUMBERS_6 t_NUMBERS_7 t_NUMBERS_8 t_NUMBERS_9 t_NUMBERS_10 t_NUMBERS_11 t_NUMBERS_12 t_NUMBERS_13 t_NUMBERS_14 t_NUMBERS_15 t_NUMBERS_16 n_NUMBERS : Nat}
    (gc_Book : PySem.W.nsIn K mainGlobals "Book" = some (some (.ref c_Book)))
    (pg_Book : PySem.W.plainGet K c_Book Str.empty = true)
    (hd_Book : PySem.W.hasDictIn K c_Book = true)
    (po_Book : PySem.W.plainOver K c_Book = true)
    (sa_Book : PySem.W.findIn K (.ref c_Book) "__setattr__" = some (some (.builtin "object.__setattr__")))
    (mk_Book : PySem.W.makesIn K c_Book = true)
    (kc_Book : PySem.W.keepIn K (.ref c_Book) = true)
    (na_Book_accounts : PySem.W.findIn K (.ref c_Book) "accounts" = some none)
    (na_Book_done : PySem.W.findIn K (.ref c_Book) "done" = some none)
    (gc_Client : PySem.W.nsIn K mainGlobals "Client" = some (some (.ref c_Client)))
    (pg_Client : PySem.W.plainGet K c_Client Str.empty = true)
    (hd_Client : PySem.W.hasDictIn K c_Client = true)
    (po_Client : PySem.W.plainOver K c_Client = true)
    (sa_Client : PySem.W.findIn K (.ref c_Client) "__setattr__" = some (some (.builtin "object.__setattr__")))
    (mk_Client : PySem.W.makesIn K c_Client = true)
    (kc_Client : PySem.W.keepIn K (.ref c_Client) = true)
    (na_Client_made : PySem.W.findIn K (.ref c_Client) "made" = some none)
    (na_Client_waits : PySem.W.findIn K (.ref c_Client) "waits" = some none)
    (na_Client_asked : PySem.W.findIn K (.ref c_Client) "asked" = some none)
    (na_Client_heard : PySem.W.findIn K (.ref c_Client) "heard" = some none)
    (gc_House : PySem.W.nsIn K mainGlobals "House" = some (some (.ref c_House)))
    (pg_House : PySem.W.plainGet K c_House Str.empty = true)
    (hd_House : PySem.W.hasDictIn K c_House = true)
    (po_House : PySem.W.plainOver K c_House = true)
    (sa_House : PySem.W.findIn K (.ref c_House) "__setattr__" = some (some (.builtin "object.__setattr__")))
    (mk_House : PySem.W.makesIn K c_House = true)
    (kc_House : PySem.W.keepIn K (.ref c_House) = true)
    (na_House_time : PySem.W.findIn K (.ref c_House) "time" = some none)
    (na_House_living : PySem.W.findIn K (.ref c_House) "living" = some none)
    (na_House_lives : PySem.W.findIn K (.ref c_House) "lives" = some none)
    (na_House_clients : PySem.W.findIn K (.ref c_House) "clients" = some none)
    (na_House_book : PySem.W.findIn K (.ref c_House) "book" = some none)
    (na_House_disk : PySem.W.findIn K (.ref c_House) "disk" = some none)
    (na_House_waiting : PySem.W.findIn K (.ref c_House) "waiting" = some none)
    (na_House_noted : PySem.W.findIn K (.ref c_House) "noted" = some none)
    (na_House_times : PySem.W.findIn K (.ref c_House) "times" = some none)
    (na_House_letters : PySem.W.findIn K (.ref c_House) "letters" = some none)
    (at_Book_init : PySem.W.findIn K (.ref c_Book) "__init__" = some (some (.ref f_Book_init)))
    (fn_Book_init : PySem.W.isFn K (.ref f_Book_init) = true)
    (lk_Book_init : K.lookup f_Book_init = some ⟨oc_Book_init, od_Book_init, .func (PySem.W.fnOf "__init__" "Book.__init__" (defArgs s_Book_init) (defBody s_Book_init) (defScope s_Book_init) .none kV_Book_init dc_Book_init pm_Book_init an_Book_init cd_Book_init ct_Book_init), sl_Book_init⟩)
    (co_Book_init : PySem.W.codeIn K cd_Book_init "Book.__init__" = true)
    (k_Book_init : PySem.W.keepIn K (.ref f_Book_init) = true)
    (at_Book_copy : PySem.W.findIn K (.ref c_Book) "copy" = some (some (.ref f_Book_copy)))
    (fn_Book_copy : PySem.W.isFn K (.ref f_Book_copy) = true)
    (lk_Book_copy : K.lookup f_Book_copy = some ⟨oc_Book_copy, od_Book_copy, .func (PySem.W.fnOf "copy" "Book.copy" (defArgs s_Book_copy) (defBody s_Book_copy) (defScope s_Book_copy) .none kV_Book_copy dc_Book_copy pm_Book_copy an_Book_copy cd_Book_copy ct_Book_copy), sl_Book_copy⟩)
    (co_Book_copy : PySem.W.codeIn K cd_Book_copy "Book.copy" = true)
    (k_Book_copy : PySem.W.keepIn K (.ref f_Book_copy) = true)
    (at_Book_last : PySem.W.findIn K (.ref c_Book) "last" = some (some (.ref f_Book_last)))
    (fn_Book_last : PySem.W.isFn K (.ref f_Book_last) = true)
    (lk_Book_last : K.lookup f_Book_last = some ⟨oc_Book_last, od_Book_last, .func (PySem.W.fnOf "last" "Book.last" (defArgs s_Book_last) (defBody s_Book_last) (defScope s_Book_last) .none kV_Book_last dc_Book_last pm_Book_last an_Book_last cd_Book_last ct_Book_last), sl_Book_last⟩)
    (co_Book_last : PySem.W.codeIn K cd_Book_last "Book.last" = true)
    (k_Book_last : PySem.W.keepIn K (.ref f_Book_last) = true)
    (at_Book_answer_to : PySem.W.findIn K (.ref c_Book) "answer_to" = some (some (.ref f_Book_answer_to)))
    (fn_Book_answer_to : PySem.W.isFn K (.ref f_Book_answer_to) = true)
    (lk_Book_answer_to : K.lookup f_Book_answer_to = some ⟨oc_Book_answer_to, od_Book_answer_to, .func (PySem.W.fnOf "answer_to" "Book.answer_to" (defArgs s_Book_answer_to) (defBody s_Book_answer_to) (defScope s_Book_answer_to) .none kV_Book_answer_to dc_Book_answer_to pm_Book_answer_to an_Book_answer_to cd_Book_answer_to ct_Book_answer_to), sl_Book_answer_to⟩)
    (co_Book_answer_to : PySem.W.codeIn K cd_Book_answer_to "Book.answer_to" = true)
    (k_Book_answer_to : PySem.W.keepIn K (.ref f_Book_answer_to) = true)
    (at_Book_told : PySem.W.findIn K (.ref c_Book) "told" = some (some (.ref f_Book_told)))
    (fn_Book_told : PySem.W.isFn K (.ref f_Book_told) = true)
    (lk_Book_told : K.lookup f_Book_told = some ⟨oc_Book_told, od_Book_told, .func (PySem.W.fnOf "told" "Book.told" (defArgs s_Book_told) (defBody s_Book_told) (defScope s_Book_told) .none kV_Book_told dc_Book_told pm_Book_told an_Book_told cd_Book_told ct_Book_told), sl_Book_told⟩)
    (co_Book_told : PySem.W.codeIn K cd_Book_told "Book.told" = true)
    (k_Book_told : PySem.W.keepIn K (.ref f_Book_told) = true)
    (at_Book_do_request : PySem.W.findIn K (.ref c_Book) "do_request" = some (some (.ref f_Book_do_request)))
    (fn_Book_do_request : PySem.W.isFn K (.ref f_Book_do_request) = true)
    (lk_Book_do_request : K.lookup f_Book_do_request = some ⟨oc_Book_do_request, od_Book_do_request, .func (PySem.W.fnOf "do_request" "Book.do_request" (defArgs s_Book_do_request) (defBody s_Book_do_request) (defScope s_Book_do_request) .none kV_Book_do_request dc_Book_do_request pm_Book_do_request an_Book_do_request cd_Book_do_request ct_Book_do_request), sl_Book_do_request⟩)
    (co_Book_do_request : PySem.W.codeIn K cd_Book_do_request "Book.do_request" = true)
    (k_Book_do_request : PySem.W.keepIn K (.ref f_Book_do_request) = true)
    (at_Book_change_account : PySem.W.findIn K (.ref c_Book) "change_account" = some (some (.ref f_Book_change_account)))
    (fn_Book_change_account : PySem.W.isFn K (.ref f_Book_change_account) = true)
    (lk_Book_change_account : K.lookup f_Book_change_account = some ⟨oc_Book_change_account, od_Book_change_account, .func (PySem.W.fnOf "change_account" "Book.change_account" (defArgs s_Book_change_account) (defBody s_Book_change_account) (defScope s_Book_change_account) .none kV_Book_change_account dc_Book_change_account pm_Book_change_account an_Book_change_account cd_Book_change_account ct_Book_change_account), sl_Book_change_account⟩)
    (co_Book_change_account : PySem.W.codeIn K cd_Book_change_account "Book.change_account" = true)
    (k_Book_change_account : PySem.W.keepIn K (.ref f_Book_change_account) = true)
    (at_Client_init : PySem.W.findIn K (.ref c_Client) "__init__" = some (some (.ref f_Client_init)))
    (fn_Client_init : PySem.W.isFn K (.ref f_Client_init) = true)
    (lk_Client_init : K.lookup f_Client_init = some ⟨oc_Client_init, od_Client_init, .func (PySem.W.fnOf "__init__" "Client.__init__" (defArgs s_Client_init) (defBody s_Client_init) (defScope s_Client_init) .none kV_Client_init dc_Client_init pm_Client_init an_Client_init cd_Client_init ct_Client_init), sl_Client_init⟩)
    (co_Client_init : PySem.W.codeIn K cd_Client_init "Client.__init__" = true)
    (k_Client_init : PySem.W.keepIn K (.ref f_Client_init) = true)
    (at_House_init : PySem.W.findIn K (.ref c_House) "__init__" = some (some (.ref f_House_init)))
    (fn_House_init : PySem.W.isFn K (.ref f_House_init) = true)
    (lk_House_init : K.lookup f_House_init = some ⟨oc_House_init, od_House_init, .func (PySem.W.fnOf "__init__" "House.__init__" (defArgs s_House_init) (defBody s_House_init) (defScope s_House_init) .none kV_House_init dc_House_init pm_House_init an_House_init cd_House_init ct_House_init), sl_House_init⟩)
    (co_House_init : PySem.W.codeIn K cd_House_init "House.__init__" = true)
    (k_House_init : PySem.W.keepIn K (.ref f_House_init) = true)
    (at_House_is_full : PySem.W.findIn K (.ref c_House) "is_full" = some (some (.ref f_House_is_full)))
    (fn_House_is_full : PySem.W.isFn K (.ref f_House_is_full) = true)
    (lk_House_is_full : K.lookup f_House_is_full = some ⟨oc_House_is_full, od_House_is_full, .func (PySem.W.fnOf "is_full" "House.is_full" (defArgs s_House_is_full) (defBody s_House_is_full) (defScope s_House_is_full) .none kV_House_is_full dc_House_is_full pm_House_is_full an_House_is_full cd_House_is_full ct_House_is_full), sl_House_is_full⟩)
    (co_House_is_full : PySem.W.codeIn K cd_House_is_full "House.is_full" = true)
    (k_House_is_full : PySem.W.keepIn K (.ref f_House_is_full) = true)
    (at_House_has_letter : PySem.W.findIn K (.ref c_House) "has_letter" = some (some (.ref f_House_has_letter)))
    (fn_House_has_letter : PySem.W.isFn K (.ref f_House_has_letter) = true)
    (lk_House_has_letter : K.lookup f_House_has_letter = some ⟨oc_House_has_letter, od_House_has_letter, .func (PySem.W.fnOf "has_letter" "House.has_letter" (defArgs s_House_has_letter) (defBody s_House_has_letter) (defScope s_House_has_letter) .none kV_House_has_letter dc_House_has_letter pm_House_has_letter an_House_has_letter cd_House_has_letter ct_House_has_letter), sl_House_has_letter⟩)
    (co_House_has_letter : PySem.W.codeIn K cd_House_has_letter "House.has_letter" = true)
    (k_House_has_letter : PySem.W.keepIn K (.ref f_House_has_letter) = true)
    (at_House_send_request : PySem.W.findIn K (.ref c_House) "send_request" = some (some (.ref f_House_send_request)))
    (fn_House_send_request : PySem.W.isFn K (.ref f_House_send_request) = true)
    (lk_House_send_request : K.lookup f_House_send_request = some ⟨oc_House_send_request, od_House_send_request, .func (PySem.W.fnOf "send_request" "House.send_request" (defArgs s_House_send_request) (defBody s_House_send_request) (defScope s_House_send_request) .none kV_House_send_request dc_House_send_request pm_House_send_request an_House_send_request cd_House_send_request ct_House_send_request), sl_House_send_request⟩)
    (co_House_send_request : PySem.W.codeIn K cd_House_send_request "House.send_request" = true)
    (k_House_send_request : PySem.W.keepIn K (.ref f_House_send_request) = true)
    (at_House_letter_arrives : PySem.W.findIn K (.ref c_House) "letter_arrives" = some (some (.ref f_House_letter_arrives)))
    (fn_House_letter_arrives : PySem.W.isFn K (.ref f_House_letter_arrives) = true)
    (lk_House_letter_arrives : K.lookup f_House_letter_arrives = some ⟨oc_House_letter_arrives, od_House_letter_arrives, .func (PySem.W.fnOf "letter_arrives" "House.letter_arrives" (defArgs s_House_letter_arrives) (defBody s_House_letter_arrives) (defScope s_House_letter_arrives) .none kV_House_letter_arrives dc_House_letter_arrives pm_House_letter_arrives an_House_letter_arrives cd_House_letter_arrives ct_House_letter_arrives), sl_House_letter_arrives⟩)
    (co_House_letter_arrives : PySem.W.codeIn K cd_House_letter_arrives "House.letter_arrives" = true)
    (k_House_letter_arrives : PySem.W.keepIn K (.ref f_House_letter_arrives) = true)
    (at_House_request_arrives : PySem.W.findIn K (.ref c_House) "request_arrives" = some (some (.ref f_House_request_arrives)))
    (fn_House_request_arrives : PySem.W.isFn K (.ref f_House_request_arrives) = true)
    (lk_House_request_arrives : K.lookup f_House_request_arrives = some ⟨oc_House_request_arrives, od_House_request_arrives, .func (PySem.W.fnOf "request_arrives" "House.request_arrives" (defArgs s_House_request_arrives) (defBody s_House_request_arrives) (defScope s_House_request_arrives) .none kV_House_request_arrives dc_House_request_arrives pm_House_request_arrives an_House_request_arrives cd_House_request_arrives ct_House_request_arrives), sl_House_request_arrives⟩)
    (co_House_request_arrives : PySem.W.codeIn K cd_House_request_arrives "House.request_arrives" = true)
    (k_House_request_arrives : PySem.W.keepIn K (.ref f_House_request_arrives) = true)
    (at_House_question_arrives : PySem.W.findIn K (.ref c_House) "question_arrives" = some (some (.ref f_House_question_arrives)))
    (fn_House_question_arrives : PySem.W.isFn K (.ref f_House_question_arrives) = true)
    (lk_House_question_arrives : K.lookup f_House_question_arrives = some ⟨oc_House_question_arrives, od_House_question_arrives, .func (PySem.W.fnOf "question_arrives" "House.question_arrives" (defArgs s_House_question_arrives) (defBody s_House_question_arrives) (defScope s_House_question_arrives) .none kV_House_question_arrives dc_House_question_arrives pm_House_question_arrives an_House_question_arrives cd_House_question_arrives ct_House_question_arrives), sl_House_question_arrives⟩)
    (co_House_question_arrives : PySem.W.codeIn K cd_House_question_arrives "House.question_arrives" = true)
    (k_House_question_arrives : PySem.W.keepIn K (.ref f_House_question_arrives) = true)
    (at_House_reply_arrives : PySem.W.findIn K (.ref c_House) "reply_arrives" = some (some (.ref f_House_reply_arrives)))
    (fn_House_reply_arrives : PySem.W.isFn K (.ref f_House_reply_arrives) = true)
    (lk_House_reply_arrives : K.lookup f_House_reply_arrives = some ⟨oc_House_reply_arrives, od_House_reply_arrives, .func (PySem.W.fnOf "reply_arrives" "House.reply_arrives" (defArgs s_House_reply_arrives) (defBody s_House_reply_arrives) (defScope s_House_reply_arrives) .none kV_House_reply_arrives dc_House_reply_arrives pm_House_reply_arrives an_House_reply_arrives cd_House_reply_arrives ct_House_reply_arrives), sl_House_reply_arrives⟩)
    (co_House_reply_arrives : PySem.W.codeIn K cd_House_reply_arrives "House.reply_arrives" = true)
    (k_House_reply_arrives : PySem.W.keepIn K (.ref f_House_reply_arrives) = true)
    (at_House_answer_arrives : PySem.W.findIn K (.ref c_House) "answer_arrives" = some (some (.ref f_House_answer_arrives)))
    (fn_House_answer_arrives : PySem.W.isFn K (.ref f_House_answer_arrives) = true)
    (lk_House_answer_arrives : K.lookup f_House_answer_arrives = some ⟨oc_House_answer_arrives, od_House_answer_arrives, .func (PySem.W.fnOf "answer_arrives" "House.answer_arrives" (defArgs s_House_answer_arrives) (defBody s_House_answer_arrives) (defScope s_House_answer_arrives) .none kV_House_answer_arrives dc_House_answer_arrives pm_House_answer_arrives an_House_answer_arrives cd_House_answer_arrives ct_House_answer_arrives), sl_House_answer_arrives⟩)
    (co_House_answer_arrives : PySem.W.codeIn K cd_House_answer_arrives "House.answer_arrives" = true)
    (k_House_answer_arrives : PySem.W.keepIn K (.ref f_House_answer_arrives) = true)
    (at_House_store_is_asked : PySem.W.findIn K (.ref c_House) "store_is_asked" = some (some (.ref f_House_store_is_asked)))
    (fn_House_store_is_asked : PySem.W.isFn K (.ref f_House_store_is_asked) = true)
    (lk_House_store_is_asked : K.lookup f_House_store_is_asked = some ⟨oc_House_store_is_asked, od_House_store_is_asked, .func (PySem.W.fnOf "store_is_asked" "House.store_is_asked" (defArgs s_House_store_is_asked) (defBody s_House_store_is_asked) (defScope s_House_store_is_asked) .none kV_House_store_is_asked dc_House_store_is_asked pm_House_store_is_asked an_House_store_is_asked cd_House_store_is_asked ct_House_store_is_asked), sl_House_store_is_asked⟩)
    (co_House_store_is_asked : PySem.W.codeIn K cd_House_store_is_asked "House.store_is_asked" = true)
    (k_House_store_is_asked : PySem.W.keepIn K (.ref f_House_store_is_asked) = true)
    (at_House_reply_to : PySem.W.findIn K (.ref c_House) "reply_to" = some (some (.ref f_House_reply_to)))
    (fn_House_reply_to : PySem.W.isFn K (.ref f_House_reply_to) = true)
    (lk_House_reply_to : K.lookup f_House_reply_to = some ⟨oc_House_reply_to, od_House_reply_to, .func (PySem.W.fnOf "reply_to" "House.reply_to" (defArgs s_House_reply_to) (defBody s_House_reply_to) (defScope s_House_reply_to) .none kV_House_reply_to dc_House_reply_to pm_House_reply_to an_House_reply_to cd_House_reply_to ct_House_reply_to), sl_House_reply_to⟩)
    (co_House_reply_to : PySem.W.codeIn K cd_House_reply_to "House.reply_to" = true)
    (k_House_reply_to : PySem.W.keepIn K (.ref f_House_reply_to) = true)
    (at_House_store_saves : PySem.W.findIn K (.ref c_House) "store_saves" = some (some (.ref f_House_store_saves)))
    (fn_House_store_saves : PySem.W.isFn K (.ref f_House_store_saves) = true)
    (lk_House_store_saves : K.lookup f_House_store_saves = some ⟨oc_House_store_saves, od_House_store_saves, .func (PySem.W.fnOf "store_saves" "House.store_saves" (defArgs s_House_store_saves) (defBody s_House_store_saves) (defScope s_House_store_saves) .none kV_House_store_saves dc_House_store_saves pm_House_store_saves an_House_store_saves cd_House_store_saves ct_House_store_saves), sl_House_store_saves⟩)
    (co_House_store_saves : PySem.W.codeIn K cd_House_store_saves "House.store_saves" = true)
    (k_House_store_saves : PySem.W.keepIn K (.ref f_House_store_saves) = true)
    (at_House_round_passes : PySem.W.findIn K (.ref c_House) "round_passes" = some (some (.ref f_House_round_passes)))
    (fn_House_round_passes : PySem.W.isFn K (.ref f_House_round_passes) = true)
    (lk_House_round_passes : K.lookup f_House_round_passes = some ⟨oc_House_round_passes, od_House_round_passes, .func (PySem.W.fnOf "round_passes" "House.round_passes" (defArgs s_House_round_passes) (defBody s_House_round_passes) (defScope s_House_round_passes) .none kV_House_round_passes dc_House_round_passes pm_House_round_passes an_House_round_passes cd_House_round_passes ct_House_round_passes), sl_House_round_passes⟩)
    (co_House_round_passes : PySem.W.codeIn K cd_House_round_passes "House.round_passes" = true)
    (k_House_round_passes : PySem.W.keepIn K (.ref f_House_round_passes) = true)
    (at_House_process_dies : PySem.W.findIn K (.ref c_House) "process_dies" = some (some (.ref f_House_process_dies)))
    (fn_House_process_dies : PySem.W.isFn K (.ref f_House_process_dies) = true)
    (lk_House_process_dies : K.lookup f_House_process_dies = some ⟨oc_House_process_dies, od_House_process_dies, .func (PySem.W.fnOf "process_dies" "House.process_dies" (defArgs s_House_process_dies) (defBody s_House_process_dies) (defScope s_House_process_dies) .none kV_House_process_dies dc_House_process_dies pm_House_process_dies an_House_process_dies cd_House_process_dies ct_House_process_dies), sl_House_process_dies⟩)
    (co_House_process_dies : PySem.W.codeIn K cd_House_process_dies "House.process_dies" = true)
    (k_House_process_dies : PySem.W.keepIn K (.ref f_House_process_dies) = true)
    (at_House_go_down : PySem.W.findIn K (.ref c_House) "go_down" = some (some (.ref f_House_go_down)))
    (fn_House_go_down : PySem.W.isFn K (.ref f_House_go_down) = true)
    (lk_House_go_down : K.lookup f_House_go_down = some ⟨oc_House_go_down, od_House_go_down, .func (PySem.W.fnOf "go_down" "House.go_down" (defArgs s_House_go_down) (defBody s_House_go_down) (defScope s_House_go_down) .none kV_House_go_down dc_House_go_down pm_House_go_down an_House_go_down cd_House_go_down ct_House_go_down), sl_House_go_down⟩)
    (co_House_go_down : PySem.W.codeIn K cd_House_go_down "House.go_down" = true)
    (k_House_go_down : PySem.W.keepIn K (.ref f_House_go_down) = true)
    (at_House_forget : PySem.W.findIn K (.ref c_House) "forget" = some (some (.ref f_House_forget)))
    (fn_House_forget : PySem.W.isFn K (.ref f_House_forget) = true)
    (lk_House_forget : K.lookup f_House_forget = some ⟨oc_House_forget, od_House_forget, .func (PySem.W.fnOf "forget" "House.forget" (defArgs s_House_forget) (defBody s_House_forget) (defScope s_House_forget) .none kV_House_forget dc_House_forget pm_House_forget an_House_forget cd_House_forget ct_House_forget), sl_House_forget⟩)
    (co_House_forget : PySem.W.codeIn K cd_House_forget "House.forget" = true)
    (k_House_forget : PySem.W.keepIn K (.ref f_House_forget) = true)
    (at_House_process_lives : PySem.W.findIn K (.ref c_House) "process_lives" = some (some (.ref f_House_process_lives)))
    (fn_House_process_lives : PySem.W.isFn K (.ref f_House_process_lives) = true)
    (lk_House_process_lives : K.lookup f_House_process_lives = some ⟨oc_House_process_lives, od_House_process_lives, .func (PySem.W.fnOf "process_lives" "House.process_lives" (defArgs s_House_process_lives) (defBody s_House_process_lives) (defScope s_House_process_lives) .none kV_House_process_lives dc_House_process_lives pm_House_process_lives an_House_process_lives cd_House_process_lives ct_House_process_lives), sl_House_process_lives⟩)
    (co_House_process_lives : PySem.W.codeIn K cd_House_process_lives "House.process_lives" = true)
    (k_House_process_lives : PySem.W.keepIn K (.ref f_House_process_lives) = true)
    (at_House_keeper_minds : PySem.W.findIn K (.ref c_House) "keeper_minds" = some (some (.ref f_House_keeper_minds)))
    (fn_House_keeper_minds : PySem.W.isFn K (.ref f_House_keeper_minds) = true)
    (lk_House_keeper_minds : K.lookup f_House_keeper_minds = some ⟨oc_House_keeper_minds, od_House_keeper_minds, .func (PySem.W.fnOf "keeper_minds" "House.keeper_minds" (defArgs s_House_keeper_minds) (defBody s_House_keeper_minds) (defScope s_House_keeper_minds) .none kV_House_keeper_minds dc_House_keeper_minds pm_House_keeper_minds an_House_keeper_minds cd_House_keeper_minds ct_House_keeper_minds), sl_House_keeper_minds⟩)
    (co_House_keeper_minds : PySem.W.codeIn K cd_House_keeper_minds "House.keeper_minds" = true)
    (k_House_keeper_minds : PySem.W.keepIn K (.ref f_House_keeper_minds) = true)
    (at_House_come_up : PySem.W.findIn K (.ref c_House) "come_up" = some (some (.ref f_House_come_up)))
    (fn_House_come_up : PySem.W.isFn K (.ref f_House_come_up) = true)
    (lk_House_come_up : K.lookup f_House_come_up = some ⟨oc_House_come_up, od_House_come_up, .func (PySem.W.fnOf "come_up" "House.come_up" (defArgs s_House_come_up) (defBody s_House_come_up) (defScope s_House_come_up) .none kV_House_come_up dc_House_come_up pm_House_come_up an_House_come_up cd_House_come_up ct_House_come_up), sl_House_come_up⟩)
    (co_House_come_up : PySem.W.codeIn K cd_House_come_up "House.come_up" = true)
    (k_House_come_up : PySem.W.keepIn K (.ref f_House_come_up) = true)
    (at_begin : PySem.W.nsIn K mainGlobals "begin" = some (some (.ref f_begin)))
    (lk_begin : K.lookup f_begin = some ⟨oc_begin, od_begin, .func (PySem.W.fnOf "begin" "begin" (defArgs s_begin) (defBody s_begin) (defScope s_begin) .none kV_begin dc_begin pm_begin an_begin cd_begin ct_begin), sl_begin⟩)
    (co_begin : PySem.W.codeIn K cd_begin "begin" = true)
    (k_begin : PySem.W.keepIn K (.ref f_begin) = true)
    (at_ask : PySem.W.nsIn K mainGlobals "ask" = some (some (.ref f_ask)))
    (lk_ask : K.lookup f_ask = some ⟨oc_ask, od_ask, .func (PySem.W.fnOf "ask" "ask" (defArgs s_ask) (defBody s_ask) (defScope s_ask) .none kV_ask dc_ask pm_ask an_ask cd_ask ct_ask), sl_ask⟩)
    (co_ask : PySem.W.codeIn K cd_ask "ask" = true)
    (k_ask : PySem.W.keepIn K (.ref f_ask) = true)
    (at_again : PySem.W.nsIn K mainGlobals "again" = some (some (.ref f_again)))
    (lk_again : K.lookup f_again = some ⟨oc_again, od_again, .func (PySem.W.fnOf "again" "again" (defArgs s_again) (defBody s_again) (defScope s_again) .none kV_again dc_again pm_again an_again cd_again ct_again), sl_again⟩)
    (co_again : PySem.W.codeIn K cd_again "again" = true)
    (k_again : PySem.W.keepIn K (.ref f_again) = true)
    (at_take : PySem.W.nsIn K mainGlobals "take" = some (some (.ref f_take)))
    (lk_take : K.lookup f_take = some ⟨oc_take, od_take, .func (PySem.W.fnOf "take" "take" (defArgs s_take) (defBody s_take) (defScope s_take) .none kV_take dc_take pm_take an_take cd_take ct_take), sl_take⟩)
    (co_take : PySem.W.codeIn K cd_take "take" = true)
    (k_take : PySem.W.keepIn K (.ref f_take) = true)
    (at_keep : PySem.W.nsIn K mainGlobals "keep" = some (some (.ref f_keep)))
    (lk_keep : K.lookup f_keep = some ⟨oc_keep, od_keep, .func (PySem.W.fnOf "keep" "keep" (defArgs s_keep) (defBody s_keep) (defScope s_keep) .none kV_keep dc_keep pm_keep an_keep cd_keep ct_keep), sl_keep⟩)
    (co_keep : PySem.W.codeIn K cd_keep "keep" = true)
    (k_keep : PySem.W.keepIn K (.ref f_keep) = true)
    (at_lose : PySem.W.nsIn K mainGlobals "lose" = some (some (.ref f_lose)))
    (lk_lose : K.lookup f_lose = some ⟨oc_lose, od_lose, .func (PySem.W.fnOf "lose" "lose" (defArgs s_lose) (defBody s_lose) (defScope s_lose) .none kV_lose dc_lose pm_lose an_lose cd_lose ct_lose), sl_lose⟩)
    (co_lose : PySem.W.codeIn K cd_lose "lose" = true)
    (k_lose : PySem.W.keepIn K (.ref f_lose) = true)
    (at_save : PySem.W.nsIn K mainGlobals "save" = some (some (.ref f_save)))
    (lk_save : K.lookup f_save = some ⟨oc_save, od_save, .func (PySem.W.fnOf "save" "save" (defArgs s_save) (defBody s_save) (defScope s_save) .none kV_save dc_save pm_save an_save cd_save ct_save), sl_save⟩)
    (co_save : PySem.W.codeIn K cd_save "save" = true)
    (k_save : PySem.W.keepIn K (.ref f_save) = true)
    (at_kill : PySem.W.nsIn K mainGlobals "kill" = some (some (.ref f_kill)))
    (lk_kill : K.lookup f_kill = some ⟨oc_kill, od_kill, .func (PySem.W.fnOf "kill" "kill" (defArgs s_kill) (defBody s_kill) (defScope s_kill) .none kV_kill dc_kill pm_kill an_kill cd_kill ct_kill), sl_kill⟩)
    (co_kill : PySem.W.codeIn K cd_kill "kill" = true)
    (k_kill : PySem.W.keepIn K (.ref f_kill) = true)
    (at_mind : PySem.W.nsIn K mainGlobals "mind" = some (some (.ref f_mind)))
    (lk_mind : K.lookup f_mind = some ⟨oc_mind, od_mind, .func (PySem.W.fnOf "mind" "mind" (defArgs s_mind) (defBody s_mind) (defScope s_mind) .none kV_mind dc_mind pm_mind an_mind cd_mind ct_mind), sl_mind⟩)
    (co_mind : PySem.W.codeIn K cd_mind "mind" = true)
    (k_mind : PySem.W.keepIn K (.ref f_mind) = true)
    (at_ticks : PySem.W.nsIn K mainGlobals "ticks" = some (some (.ref f_ticks)))
    (lk_ticks : K.lookup f_ticks = some ⟨oc_ticks, od_ticks, .func (PySem.W.fnOf "ticks" "ticks" (defArgs s_ticks) (defBody s_ticks) (defScope s_ticks) .none kV_ticks dc_ticks pm_ticks an_ticks cd_ticks ct_ticks), sl_ticks⟩)
    (co_ticks : PySem.W.codeIn K cd_ticks "ticks" = true)
    (k_ticks : PySem.W.keepIn K (.ref f_ticks) = true)
    (at_turns : PySem.W.nsIn K mainGlobals "turns" = some (some (.ref f_turns)))
    (lk_turns : K.lookup f_turns = some ⟨oc_turns, od_turns, .func (PySem.W.fnOf "turns" "turns" (defArgs s_turns) (defBody s_turns) (defScope s_turns) .none kV_turns dc_turns pm_turns an_turns cd_turns ct_turns), sl_turns⟩)
    (co_turns : PySem.W.codeIn K cd_turns "turns" = true)
    (k_turns : PySem.W.keepIn K (.ref f_turns) = true)
    (at_tell_client : PySem.W.nsIn K mainGlobals "tell_client" = some (some (.ref f_tell_client)))
    (lk_tell_client : K.lookup f_tell_client = some ⟨oc_tell_client, od_tell_client, .func (PySem.W.fnOf "tell_client" "tell_client" (defArgs s_tell_client) (defBody s_tell_client) (defScope s_tell_client) .none kV_tell_client dc_tell_client pm_tell_client an_tell_client cd_tell_client ct_tell_client), sl_tell_client⟩)
    (co_tell_client : PySem.W.codeIn K cd_tell_client "tell_client" = true)
    (k_tell_client : PySem.W.keepIn K (.ref f_tell_client) = true)
    (at_tell_book : PySem.W.nsIn K mainGlobals "tell_book" = some (some (.ref f_tell_book)))
    (lk_tell_book : K.lookup f_tell_book = some ⟨oc_tell_book, od_tell_book, .func (PySem.W.fnOf "tell_book" "tell_book" (defArgs s_tell_book) (defBody s_tell_book) (defScope s_tell_book) .none kV_tell_book dc_tell_book pm_tell_book an_tell_book cd_tell_book ct_tell_book), sl_tell_book⟩)
    (co_tell_book : PySem.W.codeIn K cd_tell_book "tell_book" = true)
    (k_tell_book : PySem.W.keepIn K (.ref f_tell_book) = true)
    (at_tell_disk : PySem.W.nsIn K mainGlobals "tell_disk" = some (some (.ref f_tell_disk)))
    (lk_tell_disk : K.lookup f_tell_disk = some ⟨oc_tell_disk, od_tell_disk, .func (PySem.W.fnOf "tell_disk" "tell_disk" (defArgs s_tell_disk) (defBody s_tell_disk) (defScope s_tell_disk) .none kV_tell_disk dc_tell_disk pm_tell_disk an_tell_disk cd_tell_disk ct_tell_disk), sl_tell_disk⟩)
    (co_tell_disk : PySem.W.codeIn K cd_tell_disk "tell_disk" = true)
    (k_tell_disk : PySem.W.keepIn K (.ref f_tell_disk) = true)
    (at_tell_process : PySem.W.nsIn K mainGlobals "tell_process" = some (some (.ref f_tell_process)))
    (lk_tell_process : K.lookup f_tell_process = some ⟨oc_tell_process, od_tell_process, .func (PySem.W.fnOf "tell_process" "tell_process" (defArgs s_tell_process) (defBody s_tell_process) (defScope s_tell_process) .none kV_tell_process dc_tell_process pm_tell_process an_tell_process cd_tell_process ct_tell_process), sl_tell_process⟩)
    (co_tell_process : PySem.W.codeIn K cd_tell_process "tell_process" = true)
    (k_tell_process : PySem.W.keepIn K (.ref f_tell_process) = true)
    (at_tell_notes : PySem.W.nsIn K mainGlobals "tell_notes" = some (some (.ref f_tell_notes)))
    (lk_tell_notes : K.lookup f_tell_notes = some ⟨oc_tell_notes, od_tell_notes, .func (PySem.W.fnOf "tell_notes" "tell_notes" (defArgs s_tell_notes) (defBody s_tell_notes) (defScope s_tell_notes) .none kV_tell_notes dc_tell_notes pm_tell_notes an_tell_notes cd_tell_notes ct_tell_notes), sl_tell_notes⟩)
    (co_tell_notes : PySem.W.codeIn K cd_tell_notes "tell_notes" = true)
    (k_tell_notes : PySem.W.keepIn K (.ref f_tell_notes) = true)
    (at_tell_air : PySem.W.nsIn K mainGlobals "tell_air" = some (some (.ref f_tell_air)))
    (lk_tell_air : K.lookup f_tell_air = some ⟨oc_tell_air, od_tell_air, .func (PySem.W.fnOf "tell_air" "tell_air" (defArgs s_tell_air) (defBody s_tell_air) (defScope s_tell_air) .none kV_tell_air dc_tell_air pm_tell_air an_tell_air cd_tell_air ct_tell_air), sl_tell_air⟩)
    (co_tell_air : PySem.W.codeIn K cd_tell_air "tell_air" = true)
    (k_tell_air : PySem.W.keepIn K (.ref f_tell_air) = true)
    (at_answer_call : PySem.W.nsIn K mainGlobals "answer_call" = some (some (.ref f_answer_call)))
    (lk_answer_call : K.lookup f_answer_call = some ⟨oc_answer_call, od_answer_call, .func (PySem.W.fnOf "answer_call" "answer_call" (defArgs s_answer_call) (defBody s_answer_call) (defScope s_answer_call) .none kV_answer_call dc_answer_call pm_answer_call an_answer_call cd_answer_call ct_answer_call), sl_answer_call⟩)
    (co_answer_call : PySem.W.codeIn K cd_answer_call "answer_call" = true)
    (k_answer_call : PySem.W.keepIn K (.ref f_answer_call) = true)
    (at_answers : PySem.W.nsIn K mainGlobals "answers" = some (some (.ref f_answers)))
    (lk_answers : K.lookup f_answers = some ⟨oc_answers, od_answers, .func (PySem.W.fnOf "answers" "answers" (defArgs s_answers) (defBody s_answers) (defScope s_answers) .none kV_answers dc_answers pm_answers an_answers cd_answers ct_answers), sl_answers⟩)
    (co_answers : PySem.W.codeIn K cd_answers "answers" = true)
    (k_answers : PySem.W.keepIn K (.ref f_answers) = true)
    (g_ADD : PySem.W.nsIn K mainGlobals "ADD" = some (some (.int (0) t_ADD)))
    (g_TELL : PySem.W.nsIn K mainGlobals "TELL" = some (some (.int (1) t_TELL)))
    (g_KEEPER : PySem.W.nsIn K mainGlobals "KEEPER" = some (some (.int (1) t_KEEPER)))
    (g_STORE : PySem.W.nsIn K mainGlobals "STORE" = some (some (.int (2) t_STORE)))
    (g_SERVERS : PySem.W.nsIn K mainGlobals "SERVERS" = some (some (.ref a_SERVERS)))
    (q_SERVERS : K.lookup a_SERVERS = some ⟨.type "tuple", od_SERVERS, .seq #[Value.int (3) t_SERVERS_0, Value.int (4) t_SERVERS_1] n_SERVERS, sl_SERVERS⟩)
    (g_PROCESSES : PySem.W.nsIn K mainGlobals "PROCESSES" = some (some (.ref a_PROCESSES)))
    (q_PROCESSES : K.lookup a_PROCESSES = some ⟨.type "tuple", od_PROCESSES, .seq #[Value.int (1) t_PROCESSES_0, Value.int (2) t_PROCESSES_1, Value.int (3) t_PROCESSES_2, Value.int (4) t_PROCESSES_3] n_PROCESSES, sl_PROCESSES⟩)
    (g_REQUEST : PySem.W.nsIn K mainGlobals "REQUEST" = some (some (.int (0) t_REQUEST)))
    (g_TO_STORE : PySem.W.nsIn K mainGlobals "TO_STORE" = some (some (.int (1) t_TO_STORE)))
    (g_FROM_STORE : PySem.W.nsIn K mainGlobals "FROM_STORE" = some (some (.int (2) t_FROM_STORE)))
    (g_TO_CLIENT : PySem.W.nsIn K mainGlobals "TO_CLIENT" = some (some (.int (3) t_TO_CLIENT)))
    (g_NO_SUCH : PySem.W.nsIn K mainGlobals "NO_SUCH" = some (some (.int (-1) t_NO_SUCH)))
    (g_NOTHING_THERE : PySem.W.nsIn K mainGlobals "NOTHING_THERE" = some (some (.int (-5) t_NOTHING_THERE)))
    (g_TOO_MANY : PySem.W.nsIn K mainGlobals "TOO_MANY" = some (some (.int (-6) t_TOO_MANY)))
    (g_NOT_NOW : PySem.W.nsIn K mainGlobals "NOT_NOW" = some (some (.int (-8) t_NOT_NOW)))
    (g_MOST_WHAT : PySem.W.nsIn K mainGlobals "MOST_WHAT" = some (some (.int (2) t_MOST_WHAT)))
    (g_MOST_ACCOUNT : PySem.W.nsIn K mainGlobals "MOST_ACCOUNT" = some (some (.int (3) t_MOST_ACCOUNT)))
    (g_MOST_MUCH : PySem.W.nsIn K mainGlobals "MOST_MUCH" = some (some (.int (1000) t_MOST_MUCH)))
    (g_MOST_LETTERS : PySem.W.nsIn K mainGlobals "MOST_LETTERS" = some (some (.int (60) t_MOST_LETTERS)))
    (g_MOST_STARTS : PySem.W.nsIn K mainGlobals "MOST_STARTS" = some (some (.int (3) t_MOST_STARTS)))
    (g_LONGEST_AGO : PySem.W.nsIn K mainGlobals "LONGEST_AGO" = some (some (.int (100) t_LONGEST_AGO)))
    (g_MOST_TICKS : PySem.W.nsIn K mainGlobals "MOST_TICKS" = some (some (.int (10000) t_MOST_TICKS)))
    (g_MOST_ROUNDS : PySem.W.nsIn K mainGlobals "MOST_ROUNDS" = some (some (.int (200) t_MOST_ROUNDS)))
    (g_CALLS : PySem.W.nsIn K mainGlobals "CALLS" = some (some (.ref a_CALLS)))
    (q_CALLS : K.lookup a_CALLS = some ⟨.type "tuple", od_CALLS, .seq #[.ref f_begin, .ref f_ask, .ref f_again, .ref f_take, .ref f_keep, .ref f_lose, .ref f_save, .ref f_kill, .ref f_mind, .ref f_ticks, .ref f_turns, .ref f_tell_client, .ref f_tell_book, .ref f_tell_disk, .ref f_tell_process, .ref f_tell_notes, .ref f_tell_air] n_CALLS, sl_CALLS⟩)
    (g_NUMBERS : PySem.W.nsIn K mainGlobals "NUMBERS" = some (some (.ref a_NUMBERS)))
    (q_NUMBERS : K.lookup a_NUMBERS = some ⟨.type "tuple", od_NUMBERS, .seq #[Value.int (0) t_NUMBERS_0, Value.int (5) t_NUMBERS_1, Value.int (2) t_NUMBERS_2, Value.int (1) t_NUMBERS_3, Value.int (1) t_NUMBERS_4, Value.int (1) t_NUMBERS_5, Value.int (0) t_NUMBERS_6, Value.int (1) t_NUMBERS_7, Value.int (0) t_NUMBERS_8, Value.int (1) t_NUMBERS_9, Value.int (1) t_NUMBERS_10, Value.int (1) t_NUMBERS_11, Value.int (0) t_NUMBERS_12, Value.int (0) t_NUMBERS_13, Value.int (1) t_NUMBERS_14, Value.int (0) t_NUMBERS_15, Value.int (0) t_NUMBERS_16] n_NUMBERS, sl_NUMBERS⟩)
    (z_len : PySem.W.nsIn K mainGlobals "len" = some none)
    (z_list : PySem.W.nsIn K mainGlobals "list" = some none)
    (z_range : PySem.W.nsIn K mainGlobals "range" = some none)
    (z_tuple : PySem.W.nsIn K mainGlobals "tuple" = some none) :
    Txt K mg ⟨c_Book, c_Client, c_House, f_Book_init, (PySem.W.fnOf "__init__" "Book.__init__" (defArgs s_Book_init) (defBody s_Book_init) (defScope s_Book_init) .none kV_Book_init dc_Book_init pm_Book_init an_Book_init cd_Book_init ct_Book_init), f_Book_copy, (PySem.W.fnOf "copy" "Book.copy" (defArgs s_Book_copy) (defBody s_Book_copy) (defScope s_Book_copy) .none kV_Book_copy dc_Book_copy pm_Book_copy an_Book_copy cd_Book_copy ct_Book_copy), f_Book_last, (PySem.W.fnOf "last" "Book.last" (defArgs s_Book_last) (defBody s_Book_last) (defScope s_Book_last) .none kV_Book_last dc_Book_last pm_Book_last an_Book_last cd_Book_last ct_Book_last), f_Book_answer_to, (PySem.W.fnOf "answer_to" "Book.answer_to" (defArgs s_Book_answer_to) (defBody s_Book_answer_to) (defScope s_Book_answer_to) .none kV_Book_answer_to dc_Book_answer_to pm_Book_answer_to an_Book_answer_to cd_Book_answer_to ct_Book_answer_to), f_Book_told, (PySem.W.fnOf "told" "Book.told" (defArgs s_Book_told) (defBody s_Book_told) (defScope s_Book_told) .none kV_Book_told dc_Book_told pm_Book_told an_Book_told cd_Book_told ct_Book_told), f_Book_do_request, (PySem.W.fnOf "do_request" "Book.do_request" (defArgs s_Book_do_request) (defBody s_Book_do_request) (defScope s_Book_do_request) .none kV_Book_do_request dc_Book_do_request pm_Book_do_request an_Book_do_request cd_Book_do_request ct_Book_do_request), f_Book_change_account, (PySem.W.fnOf "change_account" "Book.change_account" (defArgs s_Book_change_account) (defBody s_Book_change_account) (defScope s_Book_change_account) .none kV_Book_change_account dc_Book_change_account pm_Book_change_account an_Book_change_account cd_Book_change_account ct_Book_change_account), f_Client_init, (PySem.W.fnOf "__init__" "Client.__init__" (defArgs s_Client_init) (defBody s_Client_init) (defScope s_Client_init) .none kV_Client_init dc_Client_init pm_Client_init an_Client_init cd_Client_init ct_Client_init), f_House_init, (PySem.W.fnOf "__init__" "House.__init__" (defArgs s_House_init) (defBody s_House_init) (defScope s_House_init) .none kV_House_init dc_House_init pm_House_init an_House_init cd_House_init ct_House_init), f_House_is_full, (PySem.W.fnOf "is_full" "House.is_full" (defArgs s_House_is_full) (defBody s_House_is_full) (defScope s_House_is_full) .none kV_House_is_full dc_House_is_full pm_House_is_full an_House_is_full cd_House_is_full ct_House_is_full), f_House_has_letter, (PySem.W.fnOf "has_letter" "House.has_letter" (defArgs s_House_has_letter) (defBody s_House_has_letter) (defScope s_House_has_letter) .none kV_House_has_letter dc_House_has_letter pm_House_has_letter an_House_has_letter cd_House_has_letter ct_House_has_letter), f_House_send_request, (PySem.W.fnOf "send_request" "House.send_request" (defArgs s_House_send_request) (defBody s_House_send_request) (defScope s_House_send_request) .none kV_House_send_request dc_House_send_request pm_House_send_request an_House_send_request cd_House_send_request ct_House_send_request), f_House_letter_arrives, (PySem.W.fnOf "letter_arrives" "House.letter_arrives" (defArgs s_House_letter_arrives) (defBody s_House_letter_arrives) (defScope s_House_letter_arrives) .none kV_House_letter_arrives dc_House_letter_arrives pm_House_letter_arrives an_House_letter_arrives cd_House_letter_arrives ct_House_letter_arrives), f_House_request_arrives, (PySem.W.fnOf "request_arrives" "House.request_arrives" (defArgs s_House_request_arrives) (defBody s_House_request_arrives) (defScope s_House_request_arrives) .none kV_House_request_arrives dc_House_request_arrives pm_House_request_arrives an_House_request_arrives cd_House_request_arrives ct_House_request_arrives), f_House_question_arrives, (PySem.W.fnOf "question_arrives" "House.question_arrives" (defArgs s_House_question_arrives) (defBody s_House_question_arrives) (defScope s_House_question_arrives) .none kV_House_question_arrives dc_House_question_arrives pm_House_question_arrives an_House_question_arrives cd_House_question_arrives ct_House_question_arrives), f_House_reply_arrives, (PySem.W.fnOf "reply_arrives" "House.reply_arrives" (defArgs s_House_reply_arrives) (defBody s_House_reply_arrives) (defScope s_House_reply_arrives) .none kV_House_reply_arrives dc_House_reply_arrives pm_House_reply_arrives an_House_reply_arrives cd_House_reply_arrives ct_House_reply_arrives), f_House_answer_arrives, (PySem.W.fnOf "answer_arrives" "House.answer_arrives" (defArgs s_House_answer_arrives) (defBody s_House_answer_arrives) (defScope s_House_answer_arrives) .none kV_House_answer_arrives dc_House_answer_arrives pm_House_answer_arrives an_House_answer_arrives cd_House_answer_arrives ct_House_answer_arrives), f_House_store_is_asked, (PySem.W.fnOf "store_is_asked" "House.store_is_asked" (defArgs s_House_store_is_asked) (defBody s_House_store_is_asked) (defScope s_House_store_is_asked) .none kV_House_store_is_asked dc_House_store_is_asked pm_House_store_is_asked an_House_store_is_asked cd_House_store_is_asked ct_House_store_is_asked), f_House_reply_to, (PySem.W.fnOf "reply_to" "House.reply_to" (defArgs s_House_reply_to) (defBody s_House_reply_to) (defScope s_House_reply_to) .none kV_House_reply_to dc_House_reply_to pm_House_reply_to an_House_reply_to cd_House_reply_to ct_House_reply_to), f_House_store_saves, (PySem.W.fnOf "store_saves" "House.store_saves" (defArgs s_House_store_saves) (defBody s_House_store_saves) (defScope s_House_store_saves) .none kV_House_store_saves dc_House_store_saves pm_House_store_saves an_House_store_saves cd_House_store_saves ct_House_store_saves), f_House_round_passes, (PySem.W.fnOf "round_passes" "House.round_passes" (defArgs s_House_round_passes) (defBody s_House_round_passes) (defScope s_House_round_passes) .none kV_House_round_passes dc_House_round_passes pm_House_round_passes an_House_round_passes cd_House_round_passes ct_House_round_passes), f_House_process_dies, (PySem.W.fnOf "process_dies" "House.process_dies" (defArgs s_House_process_dies) (defBody s_House_process_dies) (defScope s_House_process_dies) .none kV_House_process_dies dc_House_process_dies pm_House_process_dies an_House_process_dies cd_House_process_dies ct_House_process_dies), f_House_go_down, (PySem.W.fnOf "go_down" "House.go_down" (defArgs s_House_go_down) (defBody s_House_go_down) (defScope s_House_go_down) .none kV_House_go_down dc_House_go_down pm_House_go_down an_House_go_down cd_House_go_down ct_House_go_down), f_House_forget, (PySem.W.fnOf "forget" "House.forget" (defArgs s_House_forget) (defBody s_House_forget) (defScope s_House_forget) .none kV_House_forget dc_House_forget pm_House_forget an_House_forget cd_House_forget ct_House_forget), f_House_process_lives, (PySem.W.fnOf "process_lives" "House.process_lives" (defArgs s_House_process_lives) (defBody s_House_process_lives) (defScope s_House_process_lives) .none kV_House_process_lives dc_House_process_lives pm_House_process_lives an_House_process_lives cd_House_process_lives ct_House_process_lives), f_House_keeper_minds, (PySem.W.fnOf "keeper_minds" "House.keeper_minds" (defArgs s_House_keeper_minds) (defBody s_House_keeper_minds) (defScope s_House_keeper_minds) .none kV_House_keeper_minds dc_House_keeper_minds pm_House_keeper_minds an_House_keeper_minds cd_House_keeper_minds ct_House_keeper_minds), f_House_come_up, (PySem.W.fnOf "come_up" "House.come_up" (defArgs s_House_come_up) (defBody s_House_come_up) (defScope s_House_come_up) .none kV_House_come_up dc_House_come_up pm_House_come_up an_House_come_up cd_House_come_up ct_House_come_up), f_begin, (PySem.W.fnOf "begin" "begin" (defArgs s_begin) (defBody s_begin) (defScope s_begin) .none kV_begin dc_begin pm_begin an_begin cd_begin ct_begin), f_ask, (PySem.W.fnOf "ask" "ask" (defArgs s_ask) (defBody s_ask) (defScope s_ask) .none kV_ask dc_ask pm_ask an_ask cd_ask ct_ask), f_again, (PySem.W.fnOf "again" "again" (defArgs s_again) (defBody s_again) (defScope s_again) .none kV_again dc_again pm_again an_again cd_again ct_again), f_take, (PySem.W.fnOf "take" "take" (defArgs s_take) (defBody s_take) (defScope s_take) .none kV_take dc_take pm_take an_take cd_take ct_take), f_keep, (PySem.W.fnOf "keep" "keep" (defArgs s_keep) (defBody s_keep) (defScope s_keep) .none kV_keep dc_keep pm_keep an_keep cd_keep ct_keep), f_lose, (PySem.W.fnOf "lose" "lose" (defArgs s_lose) (defBody s_lose) (defScope s_lose) .none kV_lose dc_lose pm_lose an_lose cd_lose ct_lose), f_save, (PySem.W.fnOf "save" "save" (defArgs s_save) (defBody s_save) (defScope s_save) .none kV_save dc_save pm_save an_save cd_save ct_save), f_kill, (PySem.W.fnOf "kill" "kill" (defArgs s_kill) (defBody s_kill) (defScope s_kill) .none kV_kill dc_kill pm_kill an_kill cd_kill ct_kill), f_mind, (PySem.W.fnOf "mind" "mind" (defArgs s_mind) (defBody s_mind) (defScope s_mind) .none kV_mind dc_mind pm_mind an_mind cd_mind ct_mind), f_ticks, (PySem.W.fnOf "ticks" "ticks" (defArgs s_ticks) (defBody s_ticks) (defScope s_ticks) .none kV_ticks dc_ticks pm_ticks an_ticks cd_ticks ct_ticks), f_turns, (PySem.W.fnOf "turns" "turns" (defArgs s_turns) (defBody s_turns) (defScope s_turns) .none kV_turns dc_turns pm_turns an_turns cd_turns ct_turns), f_tell_client, (PySem.W.fnOf "tell_client" "tell_client" (defArgs s_tell_client) (defBody s_tell_client) (defScope s_tell_client) .none kV_tell_client dc_tell_client pm_tell_client an_tell_client cd_tell_client ct_tell_client), f_tell_book, (PySem.W.fnOf "tell_book" "tell_book" (defArgs s_tell_book) (defBody s_tell_book) (defScope s_tell_book) .none kV_tell_book dc_tell_book pm_tell_book an_tell_book cd_tell_book ct_tell_book), f_tell_disk, (PySem.W.fnOf "tell_disk" "tell_disk" (defArgs s_tell_disk) (defBody s_tell_disk) (defScope s_tell_disk) .none kV_tell_disk dc_tell_disk pm_tell_disk an_tell_disk cd_tell_disk ct_tell_disk), f_tell_process, (PySem.W.fnOf "tell_process" "tell_process" (defArgs s_tell_process) (defBody s_tell_process) (defScope s_tell_process) .none kV_tell_process dc_tell_process pm_tell_process an_tell_process cd_tell_process ct_tell_process), f_tell_notes, (PySem.W.fnOf "tell_notes" "tell_notes" (defArgs s_tell_notes) (defBody s_tell_notes) (defScope s_tell_notes) .none kV_tell_notes dc_tell_notes pm_tell_notes an_tell_notes cd_tell_notes ct_tell_notes), f_tell_air, (PySem.W.fnOf "tell_air" "tell_air" (defArgs s_tell_air) (defBody s_tell_air) (defScope s_tell_air) .none kV_tell_air dc_tell_air pm_tell_air an_tell_air cd_tell_air ct_tell_air), f_answer_call, (PySem.W.fnOf "answer_call" "answer_call" (defArgs s_answer_call) (defBody s_answer_call) (defScope s_answer_call) .none kV_answer_call dc_answer_call pm_answer_call an_answer_call cd_answer_call ct_answer_call), f_answers, (PySem.W.fnOf "answers" "answers" (defArgs s_answers) (defBody s_answers) (defScope s_answers) .none kV_answers dc_answers pm_answers an_answers cd_answers ct_answers), a_SERVERS, a_PROCESSES, a_CALLS, a_NUMBERS⟩ := by
  have F_Book_init := fun_mk (st := s_Book_init) lk_Book_init co_Book_init k_Book_init
  have b_Book_init := F_Book_init.binds (ps := ["self"]) fun _ _ _ _ _ _ us hl => match us, hl with | [_], _ => rfl
  have F_Book_copy := fun_mk (st := s_Book_copy) lk_Book_copy co_Book_copy k_Book_copy
  have b_Book_copy := F_Book_copy.binds (ps := ["self"]) fun _ _ _ _ _ _ us hl => match us, hl with | [_], _ => rfl
  have F_Book_last := fun_mk (st := s_Book_last) lk_Book_last co_Book_last k_Book_last
  have b_Book_last := F_Book_last.binds (ps := ["self", "client"]) fun _ _ _ _ _ _ us hl => match us, hl with | [_, _], _ => rfl
  have F_Book_answer_to := fun_mk (st := s_Book_answer_to) lk_Book_answer_to co_Book_answer_to k_Book_answer_to
  have b_Book_answer_to := F_Book_answer_to.binds (ps := ["self", "client", "number"]) fun _ _ _ _ _ _ us hl => match us, hl with | [_, _, _], _ => rfl
  have F_Book_told := fun_mk (st := s_Book_told) lk_Book_told co_Book_told k_Book_told
  have b_Book_told := F_Book_told.binds (ps := ["self"]) fun _ _ _ _ _ _ us hl => match us, hl with | [_], _ => rfl
  have F_Book_do_request := fun_mk (st := s_Book_do_request) lk_Book_do_request co_Book_do_request k_Book_do_request
  have b_Book_do_request := F_Book_do_request.binds (ps := ["self", "client", "number", "asked"]) fun _ _ _ _ _ _ us hl => match us, hl with | [_, _, _, _], _ => rfl
  have F_Book_change_account := fun_mk (st := s_Book_change_account) lk_Book_change_account co_Book_change_account k_Book_change_account
  have b_Book_change_account := F_Book_change_account.binds (ps := ["self", "asked"]) fun _ _ _ _ _ _ us hl => match us, hl with | [_, _], _ => rfl
  have F_Client_init := fun_mk (st := s_Client_init) lk_Client_init co_Client_init k_Client_init
  have b_Client_init := F_Client_init.binds (ps := ["self"]) fun _ _ _ _ _ _ us hl => match us, hl with | [_], _ => rfl
  have F_House_init := fun_mk (st := s_House_init) lk_House_init co_House_init k_House_init
  have b_House_init := F_House_init.binds (ps := ["self"]) fun _ _ _ _ _ _ us hl => match us, hl with | [_], _ => rfl
  have F_House_is_full := fun_mk (st := s_House_is_full) lk_House_is_full co_House_is_full k_House_is_full
  have b_House_is_full := F_House_is_full.binds (ps := ["self"]) fun _ _ _ _ _ _ us hl => match us, hl with | [_], _ => rfl
  have F_House_has_letter := fun_mk (st := s_House_has_letter) lk_House_has_letter co_House_has_letter k_House_has_letter
  have b_House_has_letter := F_House_has_letter.binds (ps := ["self", "k"]) fun _ _ _ _ _ _ us hl => match us, hl with | [_, _], _ => rfl
  have F_House_send_request := fun_mk (st := s_House_send_request) lk_House_send_request co_House_send_request k_House_send_request
  have b_House_send_request := F_House_send_request.binds (ps := ["self", "number_of_client", "server"]) fun _ _ _ _ _ _ us hl => match us, hl with | [_, _, _], _ => rfl
  have F_House_letter_arrives := fun_mk (st := s_House_letter_arrives) lk_House_letter_arrives co_House_letter_arrives k_House_letter_arrives
  have b_House_letter_arrives := F_House_letter_arrives.binds (ps := ["self", "letter"]) fun _ _ _ _ _ _ us hl => match us, hl with | [_, _], _ => rfl
  have F_House_request_arrives := fun_mk (st := s_House_request_arrives) lk_House_request_arrives co_House_request_arrives k_House_request_arrives
  have b_House_request_arrives := F_House_request_arrives.binds (ps := ["self", "letter"]) fun _ _ _ _ _ _ us hl => match us, hl with | [_, _], _ => rfl
  have F_House_question_arrives := fun_mk (st := s_House_question_arrives) lk_House_question_arrives co_House_question_arrives k_House_question_arrives
  have b_House_question_arrives := F_House_question_arrives.binds (ps := ["self", "letter"]) fun _ _ _ _ _ _ us hl => match us, hl with | [_, _], _ => rfl
  have F_House_reply_arrives := fun_mk (st := s_House_reply_arrives) lk_House_reply_arrives co_House_reply_arrives k_House_reply_arrives
  have b_House_reply_arrives := F_House_reply_arrives.binds (ps := ["self", "letter"]) fun _ _ _ _ _ _ us hl => match us, hl with | [_, _], _ => rfl
  have F_House_answer_arrives := fun_mk (st := s_House_answer_arrives) lk_House_answer_arrives co_House_answer_arrives k_House_answer_arrives
  have b_House_answer_arrives := F_House_answer_arrives.binds (ps := ["self", "letter"]) fun _ _ _ _ _ _ us hl => match us, hl with | [_, _], _ => rfl
  have F_House_store_is_asked := fun_mk (st := s_House_store_is_asked) lk_House_store_is_asked co_House_store_is_asked k_House_store_is_asked
  have b_House_store_is_asked := F_House_store_is_asked.binds (ps := ["self", "letter"]) fun _ _ _ _ _ _ us hl => match us, hl with | [_, _], _ => rfl
  have F_House_reply_to := fun_mk (st := s_House_reply_to) lk_House_reply_to co_House_reply_to k_House_reply_to
  have b_House_reply_to := F_House_reply_to.binds (ps := ["self", "letter"]) fun _ _ _ _ _ _ us hl => match us, hl with | [_, _], _ => rfl
  have F_House_store_saves := fun_mk (st := s_House_store_saves) lk_House_store_saves co_House_store_saves k_House_store_saves
  have b_House_store_saves := F_House_store_saves.binds (ps := ["self"]) fun _ _ _ _ _ _ us hl => match us, hl with | [_], _ => rfl
  have F_House_round_passes := fun_mk (st := s_House_round_passes) lk_House_round_passes co_House_round_passes k_House_round_passes
  have b_House_round_passes := F_House_round_passes.binds (ps := ["self"]) fun _ _ _ _ _ _ us hl => match us, hl with | [_], _ => rfl
  have F_House_process_dies := fun_mk (st := s_House_process_dies) lk_House_process_dies co_House_process_dies k_House_process_dies
  have b_House_process_dies := F_House_process_dies.binds (ps := ["self", "process"]) fun _ _ _ _ _ _ us hl => match us, hl with | [_, _], _ => rfl
  have F_House_go_down := fun_mk (st := s_House_go_down) lk_House_go_down co_House_go_down k_House_go_down
  have b_House_go_down := F_House_go_down.binds (ps := ["self"]) fun _ _ _ _ _ _ us hl => match us, hl with | [_], _ => rfl
  have F_House_forget := fun_mk (st := s_House_forget) lk_House_forget co_House_forget k_House_forget
  have b_House_forget := F_House_forget.binds (ps := ["self"]) fun _ _ _ _ _ _ us hl => match us, hl with | [_], _ => rfl
  have F_House_process_lives := fun_mk (st := s_House_process_lives) lk_House_process_lives co_House_process_lives k_House_process_lives
  have b_House_process_lives := F_House_process_lives.binds (ps := ["self", "process"]) fun _ _ _ _ _ _ us hl => match us, hl with | [_, _], _ => rfl
  have F_House_keeper_minds := fun_mk (st := s_House_keeper_minds) lk_House_keeper_minds co_House_keeper_minds k_House_keeper_minds
  have b_House_keeper_minds := F_House_keeper_minds.binds (ps := ["self"]) fun _ _ _ _ _ _ us hl => match us, hl with | [_], _ => rfl
  have F_House_come_up := fun_mk (st := s_House_come_up) lk_House_come_up co_House_come_up k_House_come_up
  have b_House_come_up := F_House_come_up.binds (ps := ["self"]) fun _ _ _ _ _ _ us hl => match us, hl with | [_], _ => rfl
  have F_begin := fun_mk (st := s_begin) lk_begin co_begin k_begin
  have b_begin := F_begin.binds (ps := ["house", "numbers"]) fun _ _ _ _ _ _ us hl => match us, hl with | [_, _], _ => rfl
  have F_ask := fun_mk (st := s_ask) lk_ask co_ask k_ask
  have b_ask := F_ask.binds (ps := ["house", "numbers"]) fun _ _ _ _ _ _ us hl => match us, hl with | [_, _], _ => rfl
  have F_again := fun_mk (st := s_again) lk_again co_again k_again
  have b_again := F_again.binds (ps := ["house", "numbers"]) fun _ _ _ _ _ _ us hl => match us, hl with | [_, _], _ => rfl
  have F_take := fun_mk (st := s_take) lk_take co_take k_take
  have b_take := F_take.binds (ps := ["house", "numbers"]) fun _ _ _ _ _ _ us hl => match us, hl with | [_, _], _ => rfl
  have F_keep := fun_mk (st := s_keep) lk_keep co_keep k_keep
  have b_keep := F_keep.binds (ps := ["house", "numbers"]) fun _ _ _ _ _ _ us hl => match us, hl with | [_, _], _ => rfl
  have F_lose := fun_mk (st := s_lose) lk_lose co_lose k_lose
  have b_lose := F_lose.binds (ps := ["house", "numbers"]) fun _ _ _ _ _ _ us hl => match us, hl with | [_, _], _ => rfl
  have F_save := fun_mk (st := s_save) lk_save co_save k_save
  have b_save := F_save.binds (ps := ["house", "numbers"]) fun _ _ _ _ _ _ us hl => match us, hl with | [_, _], _ => rfl
  have F_kill := fun_mk (st := s_kill) lk_kill co_kill k_kill
  have b_kill := F_kill.binds (ps := ["house", "numbers"]) fun _ _ _ _ _ _ us hl => match us, hl with | [_, _], _ => rfl
  have F_mind := fun_mk (st := s_mind) lk_mind co_mind k_mind
  have b_mind := F_mind.binds (ps := ["house", "numbers"]) fun _ _ _ _ _ _ us hl => match us, hl with | [_, _], _ => rfl
  have F_ticks := fun_mk (st := s_ticks) lk_ticks co_ticks k_ticks
  have b_ticks := F_ticks.binds (ps := ["house", "numbers"]) fun _ _ _ _ _ _ us hl => match us, hl with | [_, _], _ => rfl
  have F_turns := fun_mk (st := s_turns) lk_turns co_turns k_turns
  have b_turns := F_turns.binds (ps := ["house", "numbers"]) fun _ _ _ _ _ _ us hl => match us, hl with | [_, _], _ => rfl
  have F_tell_client := fun_mk (st := s_tell_client) lk_tell_client co_tell_client k_tell_client
  have b_tell_client := F_tell_client.binds (ps := ["house", "numbers"]) fun _ _ _ _ _ _ us hl => match us, hl with | [_, _], _ => rfl
  have F_tell_book := fun_mk (st := s_tell_book) lk_tell_book co_tell_book k_tell_book
  have b_tell_book := F_tell_book.binds (ps := ["house", "numbers"]) fun _ _ _ _ _ _ us hl => match us, hl with | [_, _], _ => rfl
  have F_tell_disk := fun_mk (st := s_tell_disk) lk_tell_disk co_tell_disk k_tell_disk
  have b_tell_disk := F_tell_disk.binds (ps := ["house", "numbers"]) fun _ _ _ _ _ _ us hl => match us, hl with | [_, _], _ => rfl
  have F_tell_process := fun_mk (st := s_tell_process) lk_tell_process co_tell_process k_tell_process
  have b_tell_process := F_tell_process.binds (ps := ["house", "numbers"]) fun _ _ _ _ _ _ us hl => match us, hl with | [_, _], _ => rfl
  have F_tell_notes := fun_mk (st := s_tell_notes) lk_tell_notes co_tell_notes k_tell_notes
  have b_tell_notes := F_tell_notes.binds (ps := ["house", "numbers"]) fun _ _ _ _ _ _ us hl => match us, hl with | [_, _], _ => rfl
  have F_tell_air := fun_mk (st := s_tell_air) lk_tell_air co_tell_air k_tell_air
  have b_tell_air := F_tell_air.binds (ps := ["house", "numbers"]) fun _ _ _ _ _ _ us hl => match us, hl with | [_, _], _ => rfl
  have F_answer_call := fun_mk (st := s_answer_call) lk_answer_call co_answer_call k_answer_call
  have b_answer_call := F_answer_call.binds (ps := ["house", "call", "numbers"]) fun _ _ _ _ _ _ us hl => match us, hl with | [_, _, _], _ => rfl
  have F_answers := fun_mk (st := s_answers) lk_answers co_answers k_answers
  have b_answers := F_answers.binds (ps := ["calls"]) fun _ _ _ _ _ _ us hl => match us, hl with | [_], _ => rfl
  exact ⟨⟨pg_Book, hd_Book, po_Book, sa_Book⟩,
    PySem.W.mg_of X G gc_Book,
    ⟨mk_Book, at_Book_init, fn_Book_init, kc_Book⟩,
    na_Book_accounts,
    na_Book_done,
    ⟨pg_Client, hd_Client, po_Client, sa_Client⟩,
    PySem.W.mg_of X G gc_Client,
    ⟨mk_Client, at_Client_init, fn_Client_init, kc_Client⟩,
    na_Client_made,
    na_Client_waits,
    na_Client_asked,
    na_Client_heard,
    ⟨pg_House, hd_House, po_House, sa_House⟩,
    PySem.W.mg_of X G gc_House,
    ⟨mk_House, at_House_init, fn_House_init, kc_House⟩,
    na_House_time,
    na_House_living,
    na_House_lives,
    na_House_clients,
    na_House_book,
    na_House_disk,
    na_House_waiting,
    na_House_noted,
    na_House_times,
    na_House_letters,
    F_Book_init,
    b_Book_init,
    ⟨at_Book_init, fn_Book_init, k_Book_init⟩,
    F_Book_copy,
    b_Book_copy,
    ⟨at_Book_copy, fn_Book_copy, k_Book_copy⟩,
    F_Book_last,
    b_Book_last,
    ⟨at_Book_last, fn_Book_last, k_Book_last⟩,
    F_Book_answer_to,
    b_Book_answer_to,
    ⟨at_Book_answer_to, fn_Book_answer_to, k_Book_answer_to⟩,
    F_Book_told,
    b_Book_told,
    ⟨at_Book_told, fn_Book_told, k_Book_told⟩,
    F_Book_do_request,
    b_Book_do_request,
    ⟨at_Book_do_request, fn_Book_do_request, k_Book_do_request⟩,
    F_Book_change_account,
    b_Book_change_account,
    ⟨at_Book_change_account, fn_Book_change_account, k_Book_change_account⟩,
    F_Client_init,
    b_Client_init,
    ⟨at_Client_init, fn_Client_init, k_Client_init⟩,
    F_House_init,
    b_House_init,
    ⟨at_House_init, fn_House_init, k_House_init⟩,
    F_House_is_full,
    b_House_is_full,
    ⟨at_House_is_full, fn_House_is_full, k_House_is_full⟩,
    F_House_has_letter,
    b_House_has_letter,
    ⟨at_House_has_letter, fn_House_has_letter, k_House_has_letter⟩,
    F_House_send_request,
    b_House_send_request,
    ⟨at_House_send_request, fn_House_send_request, k_House_send_request⟩,
    F_House_letter_arrives,
    b_House_letter_arrives,
    ⟨at_House_letter_arrives, fn_House_letter_arrives, k_House_letter_arrives⟩,
    F_House_request_arrives,
    b_House_request_arrives,
    ⟨at_House_request_arrives, fn_House_request_arrives, k_House_request_arrives⟩,
    F_House_question_arrives,
    b_House_question_arrives,
    ⟨at_House_question_arrives, fn_House_question_arrives, k_House_question_arrives⟩,
    F_House_reply_arrives,
    b_House_reply_arrives,
    ⟨at_House_reply_arrives, fn_House_reply_arrives, k_House_reply_arrives⟩,
    F_House_answer_arrives,
    b_House_answer_arrives,
    ⟨at_House_answer_arrives, fn_House_answer_arrives, k_House_answer_arrives⟩,
    F_House_store_is_asked,
    b_House_store_is_asked,
    ⟨at_House_store_is_asked, fn_House_store_is_asked, k_House_store_is_asked⟩,
    F_House_reply_to,
    b_House_reply_to,
    ⟨at_House_reply_to, fn_House_reply_to, k_House_reply_to⟩,
    F_House_store_saves,
    b_House_store_saves,
    ⟨at_House_store_saves, fn_House_store_saves, k_House_store_saves⟩,
    F_House_round_passes,
    b_House_round_passes,
    ⟨at_House_round_passes, fn_House_round_passes, k_House_round_passes⟩,
    F_House_process_dies,
    b_House_process_dies,
    ⟨at_House_process_dies, fn_House_process_dies, k_House_process_dies⟩,
    F_House_go_down,
    b_House_go_down,
    ⟨at_House_go_down, fn_House_go_down, k_House_go_down⟩,
    F_House_forget,
    b_House_forget,
    ⟨at_House_forget, fn_House_forget, k_House_forget⟩,
    F_House_process_lives,
    b_House_process_lives,
    ⟨at_House_process_lives, fn_House_process_lives, k_House_process_lives⟩,
    F_House_keeper_minds,
    b_House_keeper_minds,
    ⟨at_House_keeper_minds, fn_House_keeper_minds, k_House_keeper_minds⟩,
    F_House_come_up,
    b_House_come_up,
    ⟨at_House_come_up, fn_House_come_up, k_House_come_up⟩,
    F_begin,
    b_begin,
    PySem.W.mg_of X G at_begin,
    k_begin,
    F_ask,
    b_ask,
    PySem.W.mg_of X G at_ask,
    k_ask,
    F_again,
    b_again,
    PySem.W.mg_of X G at_again,
    k_again,
    F_take,
    b_take,
    PySem.W.mg_of X G at_take,
    k_take,
    F_keep,
    b_keep,
    PySem.W.mg_of X G at_keep,
    k_keep,
    F_lose,
    b_lose,
    PySem.W.mg_of X G at_lose,
    k_lose,
    F_save,
    b_save,
    PySem.W.mg_of X G at_save,
    k_save,
    F_kill,
    b_kill,
    PySem.W.mg_of X G at_kill,
    k_kill,
    F_mind,
    b_mind,
    PySem.W.mg_of X G at_mind,
    k_mind,
    F_ticks,
    b_ticks,
    PySem.W.mg_of X G at_ticks,
    k_ticks,
    F_turns,
    b_turns,
    PySem.W.mg_of X G at_turns,
    k_turns,
    F_tell_client,
    b_tell_client,
    PySem.W.mg_of X G at_tell_client,
    k_tell_client,
    F_tell_book,
    b_tell_book,
    PySem.W.mg_of X G at_tell_book,
    k_tell_book,
    F_tell_disk,
    b_tell_disk,
    PySem.W.mg_of X G at_tell_disk,
    k_tell_disk,
    F_tell_process,
    b_tell_process,
    PySem.W.mg_of X G at_tell_process,
    k_tell_process,
    F_tell_notes,
    b_tell_notes,
    PySem.W.mg_of X G at_tell_notes,
    k_tell_notes,
    F_tell_air,
    b_tell_air,
    PySem.W.mg_of X G at_tell_air,
    k_tell_air,
    F_answer_call,
    b_answer_call,
    PySem.W.mg_of X G at_answer_call,
    k_answer_call,
    F_answers,
    b_answers,
    PySem.W.mg_of X G at_answers,
    k_answers,
    ⟨_, PySem.W.mg_of X G g_ADD⟩,
    ⟨_, PySem.W.mg_of X G g_TELL⟩,
    ⟨_, PySem.W.mg_of X G g_KEEPER⟩,
    ⟨_, PySem.W.mg_of X G g_STORE⟩,
    PySem.W.mg_of X G g_SERVERS,
    fun H => .inr ⟨_, _, _, q_SERVERS, rfl, rfl, (by show 2 ≤ sizeLine; decide), .cons ⟨_, rfl⟩ (.cons ⟨_, rfl⟩ (Paired.nil))⟩,
    PySem.W.mg_of X G g_PROCESSES,
    fun H => .inr ⟨_, _, _, q_PROCESSES, rfl, rfl, (by show 4 ≤ sizeLine; decide), .cons ⟨_, rfl⟩ (.cons ⟨_, rfl⟩ (.cons ⟨_, rfl⟩ (.cons ⟨_, rfl⟩ (Paired.nil))))⟩,
    ⟨_, PySem.W.mg_of X G g_REQUEST⟩,
    ⟨_, PySem.W.mg_of X G g_TO_STORE⟩,
    ⟨_, PySem.W.mg_of X G g_FROM_STORE⟩,
    ⟨_, PySem.W.mg_of X G g_TO_CLIENT⟩,
    ⟨_, PySem.W.mg_of X G g_NO_SUCH⟩,
    ⟨_, PySem.W.mg_of X G g_NOTHING_THERE⟩,
    ⟨_, PySem.W.mg_of X G g_TOO_MANY⟩,
    ⟨_, PySem.W.mg_of X G g_NOT_NOW⟩,
    ⟨_, PySem.W.mg_of X G g_MOST_WHAT⟩,
    ⟨_, PySem.W.mg_of X G g_MOST_ACCOUNT⟩,
    ⟨_, PySem.W.mg_of X G g_MOST_MUCH⟩,
    ⟨_, PySem.W.mg_of X G g_MOST_LETTERS⟩,
    ⟨_, PySem.W.mg_of X G g_MOST_STARTS⟩,
    ⟨_, PySem.W.mg_of X G g_LONGEST_AGO⟩,
    ⟨_, PySem.W.mg_of X G g_MOST_TICKS⟩,
    ⟨_, PySem.W.mg_of X G g_MOST_ROUNDS⟩,
    PySem.W.mg_of X G g_CALLS,
    fun H => .inr ⟨_, _, _, q_CALLS, rfl, rfl, (by show 17 ≤ sizeLine; decide), .cons rfl (.cons rfl (.cons rfl (.cons rfl (.cons rfl (.cons rfl (.cons rfl (.cons rfl (.cons rfl (.cons rfl (.cons rfl (.cons rfl (.cons rfl (.cons rfl (.cons rfl (.cons rfl (.cons rfl (Paired.nil)))))))))))))))))⟩,
    PySem.W.mg_of X G g_NUMBERS,
    fun H => .inr ⟨_, _, _, q_NUMBERS, rfl, rfl, (by show 17 ≤ sizeLine; decide), .cons ⟨_, rfl⟩ (.cons ⟨_, rfl⟩ (.cons ⟨_, rfl⟩ (.cons ⟨_, rfl⟩ (.cons ⟨_, rfl⟩ (.cons ⟨_, rfl⟩ (.cons ⟨_, rfl⟩ (.cons ⟨_, rfl⟩ (.cons ⟨_, rfl⟩ (.cons ⟨_, rfl⟩ (.cons ⟨_, rfl⟩ (.cons ⟨_, rfl⟩ (.cons ⟨_, rfl⟩ (.cons ⟨_, rfl⟩ (.cons ⟨_, rfl⟩ (.cons ⟨_, rfl⟩ (.cons ⟨_, rfl⟩ (Paired.nil)))))))))))))))))⟩,
    PySem.W.mg_none_of X G z_len,
    PySem.W.mg_none_of X G z_list,
    PySem.W.mg_none_of X G z_range,
    PySem.W.mg_none_of X G z_tuple⟩
end Su

namespace Su
open PySem PySem.Spec PyProof.Rows L2
open PySem.W (Codec)
theorem fa_mk {P : Program} {w : World} {K : PySem.W.Frag} {mg : Str → Option Value} {fa : Addr} {d : Ad} (T : Txt K mg d) (hfa : mg "answers" = some (.ref fa)) :
    ∃ fd : FuncData, (∀ (s : Shared) (us : List Value), us.length = (["calls"] : List Str).length → BindsTo s fd ⟨us, []⟩ ((["calls"] : List Str).zip us)) ∧ ∀ base : Heap, K.In base → base.Ns mainGlobals mg → FnOk P w K mg base CX0 9 fa fd ["calls"] (sp_answers K d) := by
  have e := hfa.symm.trans T.gf_answers
  cases e
  obtain ⟨oc, od, kV, doc, pm, an, cdv, ct, osl, he, lk, hcd⟩ := T.F_answers.ex
  exact ⟨d.fd_answers, fun s us hu => match us, hu with | [_], _ => by rw [he]; exact .of_eq rfl, fun base _ _ => ok_answers T⟩
end Su
open PySem PySem.W PyProof.Rows
set_option maxRecDepth 100000 in
set_option maxHeartbeats 8000000 in
theorem PySem.Challenge.cw_staysup_s01_answers_holds : PySem.Challenge.rw_staysup_s01_answers.Holds := by
  w_on; k_headR; (case hw => exact ⟨[.list [.int 0]], by decide +kernel, by decide +kernel⟩)
  k_fillS
  refine L2.walk_specK (r := PySem.Challenge.rw_staysup_s01_answers) (k := 9) (CX := L2.CX0) (ps := ["calls"]) (sp := fun K => Su.spAns K) (by decide +kernel) rfl rfl ⟨rfl, by decide, by decide⟩ (fun w h Y => PySem.W.kIn_of Y) ?F ?S (fun _ _ _ _ z => z)
  case F =>
    intro w mg fa h Y KX G hmg
    refine Su.fa_mk (d := ?d) ?T hmg
    case T =>
    refine' Su.txt_mk KX G ?gc_Book ?pg_Book ?hd_Book ?po_Book ?sa_Book ?mk_Book ?kc_Book ?na_Book_accounts ?na_Book_done ?gc_Client ?pg_Client ?hd_Client ?po_Client ?sa_Client ?mk_Client ?kc_Client ?na_Client_made ?na_Client_waits ?na_Client_asked ?na_Client_heard ?gc_House ?pg_House ?hd_House ?po_House ?sa_House ?mk_House ?kc_House ?na_House_time ?na_House_living ?na_House_lives ?na_House_clients ?na_House_book ?na_House_disk ?na_House_waiting ?na_House_noted ?na_House_times ?na_House_letters ?at_Book_init ?fn_Book_init ?lk_Book_init ?co_Book_init ?k_Book_init ?at_Book_copy ?fn_Book_copy ?lk_Book_copy ?co_Book_copy ?k_Book_copy ?at_Book_last ?fn_Book_last ?lk_Book_last ?co_Book_last ?k_Book_last ?at_Book_answer_to ?fn_Book_answer_to ?lk_Book_answer_to ?co_Book_answer_to ?k_Book_answer_to ?at_Book_told ?fn_Book_told ?lk_Book_told ?co_Book_told ?k_Book_told ?at_Book_do_request ?fn_Book_do_request ?lk_Book_do_request ?co_Book_do_request ?k_Book_do_request ?at_Book_change_account ?fn_Book_change_account ?lk_Book_change_account ?co_Book_change_account ?k_Book_change_account ?at_Client_init ?fn_Client_init ?lk_Client_init ?co_Client_init ?k_Client_init ?at_House_init ?fn_House_init ?lk_House_init ?co_House_init ?k_House_init ?at_House_is_full ?fn_House_is_full ?lk_House_is_full ?co_House_is_full ?k_House_is_full ?at_House_has_letter ?fn_House_has_letter ?lk_House_has_letter ?co_House_has_letter ?k_House_has_letter ?at_House_send_request ?fn_House_send_request ?lk_House_send_request ?co_House_send_request ?k_House_send_request ?at_House_letter_arrives ?fn_House_letter_arrives ?lk_House_letter_arrives ?co_House_letter_arrives ?k_House_letter_arrives ?at_House_request_arrives ?fn_House_request_arrives ?lk_House_request_arrives ?co_House_request_arrives ?k_House_request_arrives ?at_House_question_arrives ?fn_House_question_arrives ?lk_House_question_arrives ?co_House_question_arrives ?k_House_question_arrives ?at_House_reply_arrives ?fn_House_reply_arrives ?lk_House_reply_arrives ?co_House_reply_arrives ?k_House_reply_arrives ?at_House_answer_arrives ?fn_House_answer_arrives ?lk_House_answer_arrives ?co_House_answer_arrives ?k_House_answer_arrives ?at_House_store_is_asked ?fn_House_store_is_asked ?lk_House_store_is_asked ?co_House_store_is_asked ?k_House_store_is_asked ?at_House_reply_to ?fn_House_reply_to ?lk_House_reply_to ?co_House_reply_to ?k_House_reply_to ?at_House_store_saves ?fn_House_store_saves ?lk_House_store_saves ?co_House_store_saves ?k_House_store_saves ?at_House_round_passes ?fn_House_round_passes ?lk_House_round_passes ?co_House_round_passes ?k_House_round_passes ?at_House_process_dies ?fn_House_process_dies ?lk_House_process_dies ?co_House_process_dies ?k_House_process_dies ?at_House_go_down ?fn_House_go_down ?lk_House_go_down ?co_House_go_down ?k_House_go_down ?at_House_forget ?fn_House_forget ?lk_House_forget ?co_House_forget ?k_House_forget ?at_House_process_lives ?fn_House_process_lives ?lk_House_process_lives ?co_House_process_lives ?k_House_process_lives ?at_House_keeper_minds ?fn_House_keeper_minds ?lk_House_keeper_minds ?co_House_keeper_minds ?k_House_keeper_minds ?at_House_come_up ?fn_House_come_up ?lk_House_come_up ?co_House_come_up ?k_House_come_up ?at_begin ?lk_begin ?co_begin ?k_begin ?at_ask ?lk_ask ?co_ask ?k_ask ?at_again ?lk_again ?co_again ?k_again ?at_take ?lk_take ?co_take ?k_take ?at_keep ?lk_keep ?co_keep ?k_keep ?at_lose ?lk_lose ?co_lose ?k_lose ?at_save ?lk_save ?co_save ?k_save ?at_kill ?lk_kill ?co_kill ?k_kill ?at_mind ?lk_mind ?co_mind ?k_mind ?at_ticks ?lk_ticks ?co_ticks ?k_ticks ?at_turns ?lk_turns ?co_turns ?k_turns ?at_tell_client ?lk_tell_client ?co_tell_client ?k_tell_client ?at_tell_book ?lk_tell_book ?co_tell_book ?k_tell_book ?at_tell_disk ?lk_tell_disk ?co_tell_disk ?k_tell_disk ?at_tell_process ?lk_tell_process ?co_tell_process ?k_tell_process ?at_tell_notes ?lk_tell_notes ?co_tell_notes ?k_tell_notes ?at_tell_air ?lk_tell_air ?co_tell_air ?k_tell_air ?at_answer_call ?lk_answer_call ?co_answer_call ?k_answer_call ?at_answers ?lk_answers ?co_answers ?k_answers ?g_ADD ?g_TELL ?g_KEEPER ?g_STORE ?g_SERVERS ?q_SERVERS ?g_PROCESSES ?q_PROCESSES ?g_REQUEST ?g_TO_STORE ?g_FROM_STORE ?g_TO_CLIENT ?g_NO_SUCH ?g_NOTHING_THERE ?g_TOO_MANY ?g_NOT_NOW ?g_MOST_WHAT ?g_MOST_ACCOUNT ?g_MOST_MUCH ?g_MOST_LETTERS ?g_MOST_STARTS ?g_LONGEST_AGO ?g_MOST_TICKS ?g_MOST_ROUNDS ?g_CALLS ?q_CALLS ?g_NUMBERS ?q_NUMBERS ?z_len ?z_list ?z_range ?z_tuple
    (case gc_Book => k_is)
    (case pg_Book => k_is)
    (case hd_Book => k_is)
    (case po_Book => k_is)
    (case sa_Book => k_is)
    (case mk_Book => k_is)
    (case kc_Book => k_is)
    (case na_Book_accounts => k_is)
    (case na_Book_done => k_is)
    (case gc_Client => k_is)
    (case pg_Client => k_is)
    (case hd_Client => k_is)
    (case po_Client => k_is)
    (case sa_Client => k_is)
    (case mk_Client => k_is)
    (case kc_Client => k_is)
    (case na_Client_made => k_is)
    (case na_Client_waits => k_is)
    (case na_Client_asked => k_is)
    (case na_Client_heard => k_is)
    (case gc_House => k_is)
    (case pg_House => k_is)
    (case hd_House => k_is)
    (case po_House => k_is)
    (case sa_House => k_is)
    (case mk_House => k_is)
    (case kc_House => k_is)
    (case na_House_time => k_is)
    (case na_House_living => k_is)
    (case na_House_lives => k_is)
    (case na_House_clients => k_is)
    (case na_House_book => k_is)
    (case na_House_disk => k_is)
    (case na_House_waiting => k_is)
    (case na_House_noted => k_is)
    (case na_House_times => k_is)
    (case na_House_letters => k_is)
    (case at_Book_init => k_is)
    (case fn_Book_init => k_is)
    (case lk_Book_init => k_is)
    (case co_Book_init => k_is)
    (case k_Book_init => k_is)
    (case at_Book_copy => k_is)
    (case fn_Book_copy => k_is)
    (case lk_Book_copy => k_is)
    (case co_Book_copy => k_is)
    (case k_Book_copy => k_is)
    (case at_Book_last => k_is)
    (case fn_Book_last => k_is)
    (case lk_Book_last => k_is)
    (case co_Book_last => k_is)
    (case k_Book_last => k_is)
    (case at_Book_answer_to => k_is)
    (case fn_Book_answer_to => k_is)
    (case lk_Book_answer_to => k_is)
    (case co_Book_answer_to => k_is)
    (case k_Book_answer_to => k_is)
    (case at_Book_told => k_is)
    (case fn_Book_told => k_is)
    (case lk_Book_told => k_is)
    (case co_Book_told => k_is)
    (case k_Book_told => k_is)
    (case at_Book_do_request => k_is)
    (case fn_Book_do_request => k_is)
    (case lk_Book_do_request => k_is)
    (case co_Book_do_request => k_is)
    (case k_Book_do_request => k_is)
    (case at_Book_change_account => k_is)
    (case fn_Book_change_account => k_is)
    (case lk_Book_change_account => k_is)
    (case co_Book_change_account => k_is)
    (case k_Book_change_account => k_is)
    (case at_Client_init => k_is)
    (case fn_Client_init => k_is)
    (case lk_Client_init => k_is)
    (case co_Client_init => k_is)
    (case k_Client_init => k_is)
    (case at_House_init => k_is)
    (case fn_House_init => k_is)
    (case lk_House_init => k_is)
    (case co_House_init => k_is)
    (case k_House_init => k_is)
    (case at_House_is_full => k_is)
    (case fn_House_is_full => k_is)
    (case lk_House_is_full => k_is)
    (case co_House_is_full => k_is)
    (case k_House_is_full => k_is)
    (case at_House_has_letter => k_is)
    (case fn_House_has_letter => k_is)
    (case lk_House_has_letter => k_is)
    (case co_House_has_letter => k_is)
    (case k_House_has_letter => k_is)
    (case at_House_send_request => k_is)
    (case fn_House_send_request => k_is)
    (case lk_House_send_request => k_is)
    (case co_House_send_request => k_is)
    (case k_House_send_request => k_is)
    (case at_House_letter_arrives => k_is)
    (case fn_House_letter_arrives => k_is)
    (case lk_House_letter_arrives => k_is)
    (case co_House_letter_arrives => k_is)
    (case k_House_letter_arrives => k_is)
    (case at_House_request_arrives => k_is)
    (case fn_House_request_arrives => k_is)
    (case lk_House_request_arrives => k_is)
    (case co_House_request_arrives => k_is)
    (case k_House_request_arrives => k_is)
    (case at_House_question_arrives => k_is)
    (case fn_House_question_arrives => k_is)
    (case lk_House_question_arrives => k_is)
    (case co_House_question_arrives => k_is)
    (case k_House_question_arrives => k_is)
    (case at_House_reply_arrives => k_is)
    (case fn_House_reply_arrives => k_is)
    (case lk_House_reply_arrives => k_is)
    (case co_House_reply_arrives => k_is)
    (case k_House_reply_arrives => k_is)
    (case at_House_answer_arrives => k_is)
    (case fn_House_answer_arrives => k_is)
    (case lk_House_answer_arrives => k_is)
    (case co_House_answer_arrives => k_is)
    (case k_House_answer_arrives => k_is)
    (case at_House_store_is_asked => k_is)
    (case fn_House_store_is_asked => k_is)
    (case lk_House_store_is_asked => k_is)
    (case co_House_store_is_asked => k_is)
    (case k_House_store_is_asked => k_is)
    (case at_House_reply_to => k_is)
    (case fn_House_reply_to => k_is)
    (case lk_House_reply_to => k_is)
    (case co_House_reply_to => k_is)
    (case k_House_reply_to => k_is)
    (case at_House_store_saves => k_is)
    (case fn_House_store_saves => k_is)
    (case lk_House_store_saves => k_is)
    (case co_House_store_saves => k_is)
    (case k_House_store_saves => k_is)
    (case at_House_round_passes => k_is)
    (case fn_House_round_passes => k_is)
    (case lk_House_round_passes => k_is)
    (case co_House_round_passes => k_is)
    (case k_House_round_passes => k_is)
    (case at_House_process_dies => k_is)
    (case fn_House_process_dies => k_is)
    (case lk_House_process_dies => k_is)
    (case co_House_process_dies => k_is)
    (case k_House_process_dies => k_is)
    (case at_House_go_down => k_is)
    (case fn_House_go_down => k_is)
    (case lk_House_go_down => k_is)
    (case co_House_go_down => k_is)
    (case k_House_go_down => k_is)
    (case at_House_forget => k_is)
    (case fn_House_forget => k_is)
    (case lk_House_forget => k_is)
    (case co_House_forget => k_is)
    (case k_House_forget => k_is)
    (case at_House_process_lives => k_is)
    (case fn_House_process_lives => k_is)
    (case lk_House_process_lives => k_is)
    (case co_House_process_lives => k_is)
    (case k_House_process_lives => k_is)
    (case at_House_keeper_minds => k_is)
    (case fn_House_keeper_minds => k_is)
    (case lk_House_keeper_minds => k_is)
    (case co_House_keeper_minds => k_is)
    (case k_House_keeper_minds => k_is)
    (case at_House_come_up => k_is)
    (case fn_House_come_up => k_is)
    (case lk_House_come_up => k_is)
    (case co_House_come_up => k_is)
    (case k_House_come_up => k_is)
    (case at_begin => k_is)
    (case lk_begin => k_is)
    (case co_begin => k_is)
    (case k_begin => k_is)
    (case at_ask => k_is)
    (case lk_ask => k_is)
    (case co_ask => k_is)
    (case k_ask => k_is)
    (case at_again => k_is)
    (case lk_again => k_is)
    (case co_again => k_is)
    (case k_again => k_is)
    (case at_take => k_is)
    (case lk_take => k_is)
    (case co_take => k_is)
    (case k_take => k_is)
    (case at_keep => k_is)
    (case lk_keep => k_is)
    (case co_keep => k_is)
    (case k_keep => k_is)
    (case at_lose => k_is)
    (case lk_lose => k_is)
    (case co_lose => k_is)
    (case k_lose => k_is)
    (case at_save => k_is)
    (case lk_save => k_is)
    (case co_save => k_is)
    (case k_save => k_is)
    (case at_kill => k_is)
    (case lk_kill => k_is)
    (case co_kill => k_is)
    (case k_kill => k_is)
    (case at_mind => k_is)
    (case lk_mind => k_is)
    (case co_mind => k_is)
    (case k_mind => k_is)
    (case at_ticks => k_is)
    (case lk_ticks => k_is)
    (case co_ticks => k_is)
    (case k_ticks => k_is)
    (case at_turns => k_is)
    (case lk_turns => k_is)
    (case co_turns => k_is)
    (case k_turns => k_is)
    (case at_tell_client => k_is)
    (case lk_tell_client => k_is)
    (case co_tell_client => k_is)
    (case k_tell_client => k_is)
    (case at_tell_book => k_is)
    (case lk_tell_book => k_is)
    (case co_tell_book => k_is)
    (case k_tell_book => k_is)
    (case at_tell_disk => k_is)
    (case lk_tell_disk => k_is)
    (case co_tell_disk => k_is)
    (case k_tell_disk => k_is)
    (case at_tell_process => k_is)
    (case lk_tell_process => k_is)
    (case co_tell_process => k_is)
    (case k_tell_process => k_is)
    (case at_tell_notes => k_is)
    (case lk_tell_notes => k_is)
    (case co_tell_notes => k_is)
    (case k_tell_notes => k_is)
    (case at_tell_air => k_is)
    (case lk_tell_air => k_is)
    (case co_tell_air => k_is)
    (case k_tell_air => k_is)
    (case at_answer_call => k_is)
    (case lk_answer_call => k_is)
    (case co_answer_call => k_is)
    (case k_answer_call => k_is)
    (case at_answers => k_is)
    (case lk_answers => k_is)
    (case co_answers => k_is)
    (case k_answers => k_is)
    (case g_ADD => k_is)
    (case g_TELL => k_is)
    (case g_KEEPER => k_is)
    (case g_STORE => k_is)
    (case g_SERVERS => k_is)
    (case q_SERVERS => k_is)
    (case g_PROCESSES => k_is)
    (case q_PROCESSES => k_is)
    (case g_REQUEST => k_is)
    (case g_TO_STORE => k_is)
    (case g_FROM_STORE => k_is)
    (case g_TO_CLIENT => k_is)
    (case g_NO_SUCH => k_is)
    (case g_NOTHING_THERE => k_is)
    (case g_TOO_MANY => k_is)
    (case g_NOT_NOW => k_is)
    (case g_MOST_WHAT => k_is)
    (case g_MOST_ACCOUNT => k_is)
    (case g_MOST_MUCH => k_is)
    (case g_MOST_LETTERS => k_is)
    (case g_MOST_STARTS => k_is)
    (case g_LONGEST_AGO => k_is)
    (case g_MOST_TICKS => k_is)
    (case g_MOST_ROUNDS => k_is)
    (case g_CALLS => k_is)
    (case q_CALLS => k_is)
    (case g_NUMBERS => k_is)
    (case q_NUMBERS => k_is)
    (case z_len => k_is)
    (case z_list => k_is)
    (case z_range => k_is)
    (case z_tuple => k_is)
  case S =>
    intro K H xs a hO hwi hask hx
    cases hx with
    | cons h1 h2 =>
      cases h2
      cases h1 with
      | lst hs ha =>
        have e := L2.ints_dw a.1 _ ha
        subst e
        have q : ((Codec.inLen 0 700 a.1 && a.1.all (Codec.inInt 0 4294967295)) && true) = true := hwi
        rw [Bool.and_eq_true, Bool.and_eq_true] at q
        exact ⟨_, a.1, rfl, hs, (Codec.inNat_iff.mp q.1.1).2, hask, fun H' p hp => .lst (L2.SqL.of hp) (L2.dw_ints _)⟩

