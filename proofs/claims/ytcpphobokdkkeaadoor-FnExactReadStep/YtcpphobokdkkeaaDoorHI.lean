/- StepOk of the program answers the plain function stepOk: the four kinds of use together. -/
import Derived.Test.YtcpphobokdkkeaaDoorHD1
import Derived.Test.YtcpphobokdkkeaaDoorHD2
import Derived.Test.YtcpphobokdkkeaaDoorHD3
import Derived.Test.YtcpphobokdkkeaaDoorHD4
import Derived.Test.YtcpphobokdkkeaaDoorHG
namespace Go.Proofs.YtcpphobokdkkeaaDoor
open Go.RowKit Go.Deep

theorem implStep_any : ImplStep := by
  intro th kind id to' cat d bl al nl kl fl gl bc ac nc kc fc gc w hd hnl hnc hcl hcc
  cases hud : uData kind with
  | true =>
    have hul : uLabel kind = false := by
      simp only [uData, Bool.or_eq_true, beq_iff_eq] at hud
      rcases hud with rfl | rfl <;> rfl
    have hue : uClear kind = false := by
      simp only [uData, Bool.or_eq_true, beq_iff_eq] at hud
      rcases hud with rfl | rfl <;> rfl
    exact implStep_FFT _ _ _ _ _ _ _ _ _ _ fl gl _ _ _ _ fc gc _ hd hnl hnc hcl hcc hul hue hud
  | false =>
    cases hue : uClear kind with
    | true =>
      have hul : uLabel kind = true := by
        simp only [uClear, beq_iff_eq] at hue
        subst hue; rfl
      exact implStep_TTF _ _ _ _ _ _ _ _ _ _ fl gl _ _ _ _ fc gc _ hd hnl hnc hcl hcc hul hue hud
    | false =>
      cases hul : uLabel kind with
      | true => exact implStep_TFF _ _ _ _ _ _ _ _ _ _ fl gl _ _ _ _ fc gc _ hd hnl hnc hcl hcc hul hue hud
      | false => exact implStep_FFF _ _ _ _ _ _ _ _ _ _ fl gl _ _ _ _ fc gc _ hd hnl hnc hcl hcc hul hue hud
end Go.Proofs.YtcpphobokdkkeaaDoor
