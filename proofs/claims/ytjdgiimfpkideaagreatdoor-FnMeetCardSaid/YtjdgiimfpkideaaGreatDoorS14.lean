/- EndEq -/
import Derived.Test.YtjdgiimfpkideaaGreatDoorS09
namespace Go.Proofs.YtjdgiimfpkideaaGreatDoor
open Go.RowKit Go.Proofs.Tryz
theorem He:yd:=by
 refine⟨fun m a m' a' p c d p' c' d' W=>?_,fun x y xs ys W=>run_eqGuard_agg W .eql 30 x y xs ys (by kernel_rfl)⟩;rw[run_eql_struct,run_equalIn_agg W 9999 30 _ _ (by kernel_rfl) (by kernel_rfl)];cases h1:(m==m')<;>cases h2:(a==a')<;>cases h3:(p==p')<;>cases h4:(c==c')<;>cases h5:(d==d')<;>(go_simp;try rfl)
theorem kv(e:En)(x1 x2:Option Addr)(y1 y2:Nat)(F1 F2:List Op.Opt)(w:World)(l1:F1.length<=maxLen)(l2:F2.length<=maxLen)(h1:HoldsO w (x1,F1.length,y1) F1)(h2:HoldsO w (x2,F2.length,y2) F2):Calls prog 69 #[.agg (aA e (x1,F1.length,y1) (x2,F2.length,y2))] w fun r w'=>r=.returned (.bool (dJ e F1 F2))/\Below w w w' :=
 iq e x1 x2 y1 y2 F1 F2 w l1 l2 h1 h2 He
end Go.Proofs.YtjdgiimfpkideaaGreatDoor
