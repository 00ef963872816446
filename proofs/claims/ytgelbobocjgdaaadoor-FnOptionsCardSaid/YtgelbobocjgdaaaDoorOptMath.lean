/- What comes back: a packet from its bytes, whatever is behind them; what is read of bytes is told by those ahead; options from theirs; no condition. -/
import Derived.Test.YtgelbobocjgdaaaDoorPktB
import Derived.Test.YtgelbobocjgdaaaDoorOptB
import Derived.Test.YtgelbobocjgdaaaDoorOptRead
namespace Go.Proofs.YtgelbobocjgdaaaDoor
open Go.RowKit
theorem dlen (t : ByteArray) : t.data.toList.length = t.size := by rw [Array.length_toList]; rfl
theorem pread_back {p : Op.Pk} (h : Op.pok p = true) (x : List UInt8) (hx : x.length ≤ 100) : Op.pread (Op.ptold p ++ x) = ⟨p, 0⟩ := by
  obtain ⟨a, b, e1, e2, e3, e4⟩ := pok_get h
  have hhi : (UInt8.ofNat ((p.data.size + 4) / 256)).toNat = (p.data.size + 4) / 256 := by simp; omega
  have hlo : (UInt8.ofNat (p.data.size + 4)).toNat = p.data.size + 4 := by simp; omega
  have hd := dlen p.data
  unfold Op.ptold
  rw [if_pos h, e4]
  show Op.pread (a :: b :: UInt8.ofNat ((p.data.size + 4) / 256) :: UInt8.ofNat (p.data.size + 4) :: (p.data.data.toList ++ x)) = _
  rw [Op.pread_good (by rw [List.length_append, hd]; omega) (by rw [hhi, hlo, List.length_append, hd]; omega), hhi, hlo]
  have hn : 256 * ((p.data.size + 4) / 256) + (p.data.size + 4) - 4 = p.data.size := by omega
  rw [hn, List.take_left' hd, ← e1, ← e2]
  rfl
theorem pread_pre {l : List UInt8} (h : (Op.pread l).code = 0) : (Op.ptold (Op.pread l).pk).length ≤ l.length ∧ l.take (Op.ptold (Op.pread l).pk).length = Op.ptold (Op.pread l).pk := by
  by_cases h8 : 8000 < l.length
  · rw [Op.pread_long h8] at h
    cases h
  · by_cases h4 : l.length < 4
    · rw [Op.pread_short h4] at h
      cases h
    · rcases l with _ | ⟨a, _ | ⟨b, _ | ⟨c, _ | ⟨d, r⟩⟩⟩⟩
      · simp at h4
      · simp at h4
      · simp at h4
      · simp at h4
      · have hr8 : r.length + 4 ≤ 8000 := by simp at h8; omega
        by_cases hb : 256 * c.toNat + d.toNat < 4 ∨ 254 < 256 * c.toNat + d.toNat ∨ r.length + 4 < 256 * c.toNat + d.toNat
        · rw [Op.pread_bad hr8 hb] at h
          cases h
        · rw [Op.pread_good hr8 hb]
          dsimp only
          have hla := a.toNat_lt
          have hlb := b.toNat_lt
          have hsz : (txt (r.take (256 * c.toNat + d.toNat - 4))).size = 256 * c.toNat + d.toNat - 4 := by rw [txt_size, List.length_take]; omega
          have hok : Op.pok ⟨(a.toNat : Int), (b.toNat : Int), txt (r.take (256 * c.toNat + d.toNat - 4))⟩ = true := decide_eq_true (by
            dsimp only
            rw [hsz]
            omega)
          have htold : Op.ptold ⟨(a.toNat : Int), (b.toNat : Int), txt (r.take (256 * c.toNat + d.toNat - 4))⟩ = a :: b :: c :: d :: r.take (256 * c.toNat + d.toNat - 4) := by
            unfold Op.ptold
            rw [if_pos hok]
            unfold Op.phead
            dsimp only
            rw [hsz, data_txt]
            have hc : UInt8.ofNat ((256 * c.toNat + d.toNat - 4 + 4) / 256) = c := by
              rw [show (256 * c.toNat + d.toNat - 4 + 4) / 256 = c.toNat by have := d.toNat_lt; omega]
              simp
            have hd : UInt8.ofNat (256 * c.toNat + d.toNat - 4 + 4) = d := by
              apply UInt8.toNat_inj.1
              have := d.toNat_lt
              simp
              omega
            rw [hc, hd]
            simp
          rw [htold]
          have hlen : (a :: b :: c :: d :: r.take (256 * c.toNat + d.toNat - 4)).length = 256 * c.toNat + d.toNat - 4 + 4 := by
            simp
            omega
          rw [hlen]
          refine ⟨by simp; omega, ?_⟩
          simp
theorem otV_back {F : List Op.Opt} (h : Op.right F = true) : oread (otV F) = (F, 0) := by
  have h1 := Op.bytes_len (Op.right_all h)
  have h2 := Op.right_len h
  refine oread_some (by rw [otV_yes h, txt_size]; omega) ?_
  rw [otV_yes h, data_txt]
  exact Op.acc_bytes h
theorem otV_told {u : ByteArray} (h : (oread u).2 = 0) : otV (oread u).1 = u := by
  by_cases h8 : 8000 < u.size
  · rw [oread_long h8] at h
    cases h
  · cases ha : Op.acc [] u.data.toList with
    | none =>
      rw [oread_none h8 ha] at h
      cases h
    | some L =>
      rw [oread_some h8 ha]
      unfold otV
      rw [Op.bytes_acc ha]
      rfl
end Go.Proofs.YtgelbobocjgdaaaDoor
