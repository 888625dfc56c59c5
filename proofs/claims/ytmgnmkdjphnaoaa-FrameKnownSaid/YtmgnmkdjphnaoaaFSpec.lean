/- What is read of an encoding; both decoders find the same frame. Nothing is said of the program here. -/
import Derived.Test.YtmgnmkdjphnaoaaFLaw
namespace Go.Proofs.Ytmgnmkdjphnaoaa
open Go Go.RowKit

/-- The frame with the longest Data that has f's encoding. -/
def Frm.long (f : Frm) : Frm := { f with data := if f.ty = 0 then f.data else f.data ++ zeros (60 - (f.hd.size + f.data.size)) }
theorem enc_form (f : Frm) : ∃ ck : ByteArray, ck.size = 4 ∧ f.enc = f.hd ++ f.data ++ zeros (60 - (f.hd.size + f.data.size)) ++ ck := by
  refine ⟨octS (cv (extB 0#32 (pad (f.hd ++ f.data)).data.toList ^^^ 0#32)), octS_size _, ?_⟩
  unfold Frm.enc sealG pad
  rw [ByteArray.size_append]
theorem get_at {s pre post : ByteArray} {n : Int} {k a : Nat} (e : s = pre ++ encS n k ++ post) (ha : pre.size = a) (hk : 1 ≤ k ∧ k ≤ 7) (hn : 0 ≤ n ∧ n < 256 ^ k) : getV s a k = n := by
  have := (back_get pre post n k (by omega) (by simpa using hn)).2
  rw [e, ← ha]
  simpa using this
theorem ext_at {s pre mid post : ByteArray} {a m : Nat} (e : s = pre ++ mid ++ post) (ha : pre.size = a) (hm : mid.size = m) : s.extract a (a + m) = mid := by
  rw [e, ← ha]
  exact back_mid pre mid post m hm
/-- What the field behind the tags says. -/
def Frm.kind (f : Frm) : Int := if f.ty = 0 then f.data.size else f.ty
theorem hd_kind (f : Frm) : f.hd = hdA f.dst f.src ++ hdT f.tag f.prio f.vid ++ hdQ f.sq f.seq ++ encS f.kind 2 := rfl
theorem ok_parts {f : Frm} (h : f.ok = true) : (0 ≤ f.dst ∧ f.dst < 256 ^ 6) ∧ (0 ≤ f.src ∧ f.src < 256 ^ 6) ∧ (0 ≤ f.prio ∧ f.prio ≤ 7) ∧ (0 ≤ f.vid ∧ f.vid ≤ 4094) ∧ (0 ≤ f.seq ∧ f.seq < 65536) ∧ (f.tag = false → f.prio = 0 ∧ f.vid = 0) ∧ (f.sq = false → f.seq = 0) ∧ (0 ≤ f.kind ∧ f.kind < 65536) ∧ f.kind ≠ 33024 ∧ f.kind ≠ 61889 ∧ (f.kind < 1536 → f.ty = 0 ∧ f.kind = f.data.size) ∧ (1536 ≤ f.kind → f.kind = f.ty ∧ f.ty ≠ 0) := by
  have hx := ok_data f h
  obtain ⟨⟨h1, h2⟩, ⟨h3, h4, h5⟩, h6, -⟩ := (ok_iff f).1 h
  have e : (256 : Int) ^ 6 = 281474976710656 := by decide
  rw [e]
  unfold only at h3 h4 h5
  unfold Frm.kind
  refine ⟨by omega, by omega, ?_, ?_, ?_, ?_, ?_, ?_, ?_, ?_, ?_, ?_⟩
  · split at h3 <;> omega
  · split at h4 <;> omega
  · split at h5 <;> omega
  · intro ht; rw [ht] at h3 h4; simp at h3 h4; omega
  · intro hq; rw [hq] at h5; simp at h5; omega
  all_goals (split <;> omega)
structure Lay (f : Frm) (s : ByteArray) : Prop where
  size : s.size = max (f.hd.size + f.data.size) 60 + 4
  dst : getV s 0 6 = f.dst
  src : getV s 6 6 = f.src
  tag : f.tag = true → getV s 12 2 = 33024 ∧ getV s 14 2 = f.prio * 8192 + f.vid
  seq : ∀ b : Nat, b = 12 + (if f.tag then 4 else 0) → f.sq = true → getV s b 2 = 61889 ∧ getV s (b + 2 : Nat) 2 = 0 ∧ getV s (b + 4 : Nat) 2 = f.seq
  kind : ∀ b : Nat, b + 2 = f.hd.size → getV s b 2 = f.kind
  data : s.extract f.hd.size (f.hd.size + f.data.size) = f.data
  all : s.extract f.hd.size (s.size - 4) = f.data ++ zeros (60 - (f.hd.size + f.data.size))
theorem hdA_size (d s) : (hdA d s).size = 12 := by unfold hdA; rw [ByteArray.size_append, encS_size, encS_size]
theorem lay {f : Frm} (h : f.ok = true) : Lay f f.enc := by
  obtain ⟨hD, hS, hP, hV, hN, -, -, hK, -⟩ := ok_parts h
  obtain ⟨ck, hck, hen⟩ := enc_form f
  have hsz := enc_sz f
  obtain ⟨z, hz⟩ : ∃ z, zeros (60 - (f.hd.size + f.data.size)) = z := ⟨_, rfl⟩
  have hzs : z.size = 60 - (f.hd.size + f.data.size) := by rw [← hz, zeros_size]
  rw [hz] at hen
  have hh := hd_kind f
  have e16 : (256 : Int) ^ 2 = 65536 := by decide
  have hT := hdT_size f.tag f.prio f.vid
  have hQ := hdQ_size f.sq f.seq
  refine ⟨hsz, ?_, ?_, ?_, ?_, ?_, ?_, ?_⟩
  · refine get_at (a := 0) (k := 6) (pre := ⟨#[]⟩) (post := encS f.src 6 ++ hdT f.tag f.prio f.vid ++ hdQ f.sq f.seq ++ encS f.kind 2 ++ f.data ++ z ++ ck) ?_ rfl (by omega) hD
    rw [hen, hh, nil_add]
    unfold hdA
    simp only [ByteArray.append_assoc]
  · refine get_at (a := 6) (k := 6) (pre := encS f.dst 6) (post := hdT f.tag f.prio f.vid ++ hdQ f.sq f.seq ++ encS f.kind 2 ++ f.data ++ z ++ ck) ?_ (encS_size _ _) (by omega) hS
    rw [hen, hh]
    unfold hdA
    simp only [ByteArray.append_assoc]
  · intro ht
    have hT' : hdT f.tag f.prio f.vid = encS 33024 2 ++ encS (f.prio * 8192 + f.vid) 2 := by unfold hdT; rw [ht, if_pos rfl]
    constructor
    · refine get_at (a := 12) (k := 2) (pre := hdA f.dst f.src) (post := encS (f.prio * 8192 + f.vid) 2 ++ hdQ f.sq f.seq ++ encS f.kind 2 ++ f.data ++ z ++ ck) ?_ (hdA_size _ _) (by omega) (by decide)
      rw [hen, hh, hT']
      simp only [ByteArray.append_assoc]
    · refine get_at (a := 14) (k := 2) (pre := hdA f.dst f.src ++ encS 33024 2) (post := hdQ f.sq f.seq ++ encS f.kind 2 ++ f.data ++ z ++ ck) ?_ (by rw [ByteArray.size_append, hdA_size, encS_size]) (by omega) (by rw [e16]; omega)
      rw [hen, hh, hT']
      simp only [ByteArray.append_assoc]
  · intro b hb hq
    have hQ' : hdQ f.sq f.seq = encS 61889 2 ++ encS 0 2 ++ encS f.seq 2 := by unfold hdQ; rw [hq, if_pos rfl]
    have hps : (hdA f.dst f.src ++ hdT f.tag f.prio f.vid).size = b := by rw [ByteArray.size_append, hdA_size, hT, hb]
    refine ⟨?_, ?_, ?_⟩
    · refine get_at (k := 2) (pre := hdA f.dst f.src ++ hdT f.tag f.prio f.vid) (post := encS 0 2 ++ encS f.seq 2 ++ encS f.kind 2 ++ f.data ++ z ++ ck) ?_ hps (by omega) (by decide)
      rw [hen, hh, hQ']
      simp only [ByteArray.append_assoc]
    · refine get_at (k := 2) (pre := hdA f.dst f.src ++ hdT f.tag f.prio f.vid ++ encS 61889 2) (post := encS f.seq 2 ++ encS f.kind 2 ++ f.data ++ z ++ ck) ?_ (by rw [ByteArray.size_append, hps, encS_size]) (by omega) (by decide)
      rw [hen, hh, hQ']
      simp only [ByteArray.append_assoc]
    · refine get_at (k := 2) (pre := hdA f.dst f.src ++ hdT f.tag f.prio f.vid ++ encS 61889 2 ++ encS 0 2) (post := encS f.kind 2 ++ f.data ++ z ++ ck) ?_ (by rw [ByteArray.size_append, ByteArray.size_append, hps, encS_size, encS_size]) (by omega) (by rw [e16]; omega)
      rw [hen, hh, hQ']
      simp only [ByteArray.append_assoc]
  · intro b hb
    refine get_at (k := 2) (pre := hdA f.dst f.src ++ hdT f.tag f.prio f.vid ++ hdQ f.sq f.seq) (post := f.data ++ z ++ ck) ?_ ?_ (by omega) (by rw [e16]; omega)
    · rw [hen, hh]
      simp only [ByteArray.append_assoc]
    · have := congrArg ByteArray.size hh
      rw [ByteArray.size_append, encS_size] at this
      omega
  · refine ext_at (pre := f.hd) (post := z ++ ck) ?_ rfl rfl
    rw [hen]
    simp only [ByteArray.append_assoc]
  · have := ext_at (s := f.enc) (pre := f.hd) (mid := f.data ++ z) (post := ck) (a := f.hd.size) (m := f.data.size + z.size) (by rw [hen]; simp only [ByteArray.append_assoc]) rfl (by rw [ByteArray.size_append])
    rw [show f.enc.size - 4 = f.hd.size + (f.data.size + z.size) by omega, this, hz]
theorem lay_rd {f : Frm} (h : f.ok = true) : rdF f.enc = some f.long := by
  obtain ⟨hD, hS, hP, hV, hN, hT0, hQ0, hK, hK1, hK2, hK3, hK4⟩ := ok_parts h
  have L := lay h
  have hsz := L.size
  have hh := hd_size f
  generalize f.enc = s at *
  have h12 : getV s 12 2 = 33024 ↔ f.tag = true := by
    constructor
    · intro he
      cases ht : f.tag with
      | true => rfl
      | false =>
        exfalso
        cases hq : f.sq with
        | true =>
          have := (L.seq 12 (by rw [ht]; rfl) hq).1
          rw [show ((12 : Nat) : Int) = 12 from rfl, he] at this
          exact absurd this (by decide)
        | false =>
          have := L.kind 12 (by rw [hh, ht, hq]; rfl)
          rw [show ((12 : Nat) : Int) = 12 from rfl, he] at this
          exact hK1 this.symm
    · intro ht
      exact (L.tag ht).1
  -- the position behind the first field that may be a tag
  obtain ⟨a, ha⟩ : ∃ a : Nat, a = 14 + (if f.tag then 4 else 0) := ⟨_, rfl⟩
  have hr1 : rd1 s = some (f.tag, f.prio, f.vid, a, getV s (a - 2 : Nat) 2) := by
    unfold rd1
    cases ht : f.tag with
    | true =>
      obtain ⟨t1, t2⟩ := L.tag ht
      rw [ht] at hh ha
      simp only [if_true] at hh ha
      subst ha
      have e1 : (f.prio * 8192 + f.vid) / 8192 = f.prio := by omega
      have e2 : (f.prio * 8192 + f.vid) % 8192 = f.vid := by omega
      rw [if_pos t1, if_neg (by omega), t2, e1, e2]
      rfl
    | false =>
      obtain ⟨p0, v0⟩ := hT0 ht
      rw [ht] at ha
      simp only [Bool.false_eq_true, if_false] at ha
      subst ha
      rw [if_neg (fun c => by have := h12.1 c; rw [ht] at this; cases this), p0, v0]
      rfl
  have hk2 : getV s (a - 2 : Nat) 2 = if f.sq then 61889 else f.kind := by
    cases hq : f.sq with
    | true => exact (L.seq (a - 2) (by omega) hq).1
    | false => exact L.kind (a - 2) (by rw [hh, hq]; simp only [Bool.false_eq_true, if_false]; omega)
  have hr2 : rd2 s a (getV s (a - 2 : Nat) 2) = some (f.sq, f.seq, f.hd.size, f.kind) := by
    unfold rd2
    rw [hk2]
    cases hq : f.sq with
    | true =>
      obtain ⟨q1, q2, q3⟩ := L.seq (a - 2) (by omega) hq
      rw [hq] at hh
      simp only [if_true] at hh
      have e1 : a - 2 + 4 = a + 2 := by omega
      rw [e1] at q3
      have e2 := L.kind (a + 4) (by omega)
      rw [show (if (true = true) then (61889 : Int) else f.kind) = 61889 from rfl, if_pos rfl, if_neg (by omega), q3, e2, show a + 6 = f.hd.size by omega]
    | false =>
      rw [hq] at hh
      simp only [Bool.false_eq_true, if_false] at hh ⊢
      rw [if_neg hK2, hQ0 hq, show a = f.hd.size by omega]
  have hr3 : rd3 s f.hd.size f.kind = some (f.long.ty, f.long.data) := by
    unfold rd3 Frm.long
    by_cases hk : f.kind < 1536
    · obtain ⟨y0, kd⟩ := hK3 hk
      have e : f.kind.toNat = f.data.size := by omega
      rw [if_pos hk, e, if_neg (by omega), L.data]
      dsimp only
      rw [if_pos y0, y0]
    · obtain ⟨ky, y0⟩ := hK4 (by omega)
      rw [if_neg hk, if_neg (by omega), L.all]
      dsimp only
      rw [if_neg y0, ky]
  unfold rdF
  rw [if_neg (by omega), hr1]
  simp only [Option.bind_some]
  rw [hr2]
  simp only [Option.bind_some]
  rw [hr3, L.dst, L.src]
  rfl
theorem lay_cand {f : Frm} (h : f.ok = true) : cand f.enc = f.long := by
  obtain ⟨hD, hS, hP, hV, hN, hT0, hQ0, hK, hK1, hK2, hK3, hK4⟩ := ok_parts h
  have L := lay h
  have hsz := L.size
  have hh := hd_size f
  generalize f.enc = s at *
  obtain ⟨a, ha⟩ : ∃ a : Nat, a = 12 + (if f.tag then 4 else 0) := ⟨_, rfl⟩
  have hc1 : cd1 s = (f.tag, f.prio, f.vid, a) := by
    unfold cd1
    cases ht : f.tag with
    | true =>
      obtain ⟨t1, t2⟩ := L.tag ht
      rw [ht] at ha
      simp only [if_true] at ha
      have e1 : (f.prio * 8192 + f.vid) / 8192 = f.prio := by omega
      have e2 : (f.prio * 8192 + f.vid) % 8192 = f.vid := by omega
      rw [if_pos t1, t2, e1, e2, ha]
    | false =>
      obtain ⟨p0, v0⟩ := hT0 ht
      rw [ht] at ha
      simp only [Bool.false_eq_true, if_false] at ha
      have hne : getV s 12 2 ≠ 33024 := by
        cases hq : f.sq with
        | true =>
          have := (L.seq 12 (by rw [ht]; rfl) hq).1
          rw [show ((12 : Nat) : Int) = 12 from rfl] at this
          rw [this]
          decide
        | false =>
          have := L.kind 12 (by rw [hh, ht, hq]; rfl)
          rw [show ((12 : Nat) : Int) = 12 from rfl] at this
          rw [this]
          exact hK1
      rw [if_neg hne, p0, v0, ha]
  obtain ⟨b, hb⟩ : ∃ b : Nat, b + 2 = f.hd.size := ⟨f.hd.size - 2, by have := (hd_le f).1; omega⟩
  have hc2 : cd2 s a = (f.sq, f.seq, b) := by
    unfold cd2
    cases hq : f.sq with
    | true =>
      obtain ⟨q1, q2, q3⟩ := L.seq a ha hq
      rw [hq] at hh
      simp only [if_true] at hh
      rw [if_pos ⟨q1, q2⟩, q3, show a + 6 = b by omega]
    | false =>
      rw [hq] at hh
      simp only [Bool.false_eq_true, if_false] at hh
      have := L.kind a (by omega)
      rw [if_neg (fun c => by rw [this] at c; exact hK2 c.1), hQ0 hq, show a = b by omega]
  have hc3 : cd3 s b = (f.long.ty, f.long.data) := by
    unfold cd3 Frm.long
    rw [L.kind b hb, hb]
    by_cases hk : f.kind < 1536
    · obtain ⟨y0, kd⟩ := hK3 hk
      have e : min f.kind.toNat (s.size - 4 - f.hd.size) = f.data.size := by omega
      rw [if_neg (by omega), e, L.data]
      dsimp only
      rw [if_pos y0, y0]
    · obtain ⟨ky, y0⟩ := hK4 (by omega)
      rw [if_pos (by omega), L.all]
      dsimp only
      rw [if_neg y0, ky]
  unfold cand
  rw [hc1]
  dsimp only
  rw [hc2]
  dsimp only
  rw [hc3, L.dst, L.src]
  rfl
theorem long_hd (f : Frm) : f.long.hd = f.hd := by
  unfold Frm.long Frm.hd
  dsimp only
  by_cases h : f.ty = 0
  · rw [if_pos h]
  · rw [if_neg h]
    unfold hdK
    rw [if_neg h, if_neg h]
theorem long_size (f : Frm) : f.long.data.size = if f.ty = 0 then f.data.size else f.data.size + (60 - (f.hd.size + f.data.size)) := by
  unfold Frm.long
  dsimp only
  split
  · rfl
  · rw [ByteArray.size_append, zeros_size]
theorem long_enc (f : Frm) : f.long.enc = f.enc := by
  unfold Frm.enc
  rw [long_hd]
  congr 1
  unfold Frm.long
  dsimp only
  by_cases h : f.ty = 0
  · rw [if_pos h]
  · rw [if_neg h]
    unfold pad
    rw [← ByteArray.append_assoc]
    rw [ByteArray.size_append (a := f.hd ++ f.data), ByteArray.size_append, zeros_size, show 60 - (f.hd.size + f.data.size + (60 - (f.hd.size + f.data.size))) = 0 by omega]
    exact add_nil _
theorem long_ok {f : Frm} (h : f.ok = true) : f.long.ok = true := by
  have hl := long_size f
  have hh := hd_size f
  have h2 := (ok_iff f).1 h
  rw [ok_iff]
  obtain ⟨h3, h4, h5, h6⟩ := h2
  refine ⟨h3, h4, h5, ?_⟩
  rw [hl]
  show _ ≤ 1500 - only f.sq 6
  unfold only at *
  split at hh <;> split at hh <;> split <;> simp_all <;> omega
theorem long_long (f : Frm) : f.long.long = f.long := by
  have hl := long_size f
  by_cases h : f.ty = 0
  · have e : f.long = f := by unfold Frm.long; rw [if_pos h]
    rw [e, e]
  · have hy : f.long.ty ≠ 0 := h
    rw [if_neg h] at hl
    have : f.long.long = { f.long with data := f.long.data ++ zeros (60 - (f.long.hd.size + f.long.data.size)) } := by
      rw [show f.long.long = { f.long with data := if f.long.ty = 0 then f.long.data else f.long.data ++ zeros (60 - (f.long.hd.size + f.long.data.size)) } from rfl, if_neg hy]
    rw [this, long_hd, hl, show 60 - (f.hd.size + (f.data.size + (60 - (f.hd.size + f.data.size)))) = 0 by omega, show f.long.data ++ zeros 0 = f.long.data from add_nil _]
theorem dec_enc {f : Frm} (h : f.ok = true) : decP f.enc = some f.long := by
  rw [decP_of (lay_rd h), if_pos ⟨long_ok h, long_enc f⟩]
theorem decP_some {s : ByteArray} {f : Frm} (h : decP s = some f) : f.ok = true ∧ f.enc = s ∧ f.long = f := by
  unfold decP at h
  cases hr : rdF s with
  | none => rw [hr] at h; cases h
  | some g =>
    rw [hr] at h
    simp only [Option.bind_some] at h
    split at h
    · rename_i hc
      cases h
      refine ⟨hc.1, hc.2, ?_⟩
      have := lay_rd hc.1
      rw [hc.2, hr] at this
      exact (Option.some.inj this).symm
    · cases h
theorem decR_enc {f : Frm} (h : f.ok = true) : decR f.enc = some f.long := by
  have hz := (lay h).size
  unfold decR
  rw [if_neg (by omega), lay_cand h, if_pos ⟨long_ok h, long_enc f⟩]
theorem decR_some {s : ByteArray} {f : Frm} (h : decR s = some f) : f.ok = true ∧ f.enc = s := by
  unfold decR at h
  split at h
  · cases h
  · split at h
    · rename_i hc
      cases h
      exact hc
    · cases h
/-- Both decoders find the same. -/
theorem dec_eq (s : ByteArray) : decP s = decR s := by
  cases hp : decP s with
  | some f =>
    obtain ⟨h1, h2, h3⟩ := decP_some hp
    rw [← h2, decR_enc h1, h3]
  | none =>
    cases hr : decR s with
    | none => rfl
    | some g =>
      obtain ⟨h1, h2⟩ := decR_some hr
      have := dec_enc h1
      rw [h2, hp] at this
      cases this
theorem seal_good (u : ByteArray) (g : BitVec 32) : goodS (sealG u g) g = true := by
  unfold goodS
  rw [sealG_list]
  exact good_chk _ g
theorem flip_burst (s : ByteArray) (a p : Nat) (g : BitVec 32) (h : flipS s a p ≠ s) (hg : goodS s g = true) : goodS (flipS s a p) g = false := by
  unfold goodS at *
  rw [flipS_list]
  refine burst_not_good (a := a) g (flipN_length _ _ _ _) (fun i hi => ?_) (fun e => h (bytes_ext e)) hg
  rw [flipN_bit, decide_eq_false (by omega)]
  simp
theorem enc_good (f : Frm) : goodS f.enc 0#32 = true := seal_good _ _
/-- What is decoded is sealed. -/
theorem dec_good {s : ByteArray} {f : Frm} (h : decP s = some f) : goodS s 0#32 = true := by
  obtain ⟨-, h2, -⟩ := decP_some h
  rw [← h2]
  exact enc_good f
theorem bad_of {s : ByteArray} (h : goodS s 0#32 = false) : badB s = true := by
  unfold badB
  cases hp : decP s with
  | none => rfl
  | some f => rw [dec_good hp] at h; cases h
end Go.Proofs.Ytmgnmkdjphnaoaa
