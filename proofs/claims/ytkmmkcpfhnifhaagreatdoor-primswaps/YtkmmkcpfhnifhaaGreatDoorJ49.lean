/- What the program tells, in part. -/
import Derived.Test.YtkmmkcpfhnifhaaGreatDoorJ38
import Derived.Test.YtkmmkcpfhnifhaaGreatDoorJ40
import Derived.Test.YtkmmkcpfhnifhaaGreatDoorJ43
import Derived.Test.YtkmmkcpfhnifhaaGreatDoorJ44
import Derived.Test.YtkmmkcpfhnifhaaGreatDoorJ46
import Derived.Test.YtkmmkcpfhnifhaaGreatDoorJ48
import Derived.Test.YtkmmkcpfhnifhaaGreatDoorJ25
set_option linter.unusedVariables false
namespace Go.Proofs.YtkmmkcpfhnifhaaGreatDoor
theorem k2_holds:K2:=⟨each_two_d,tk_holds,dr_holds,jn_holds,rtb_holds,kp_holds,sp_holds,ix_holds,in_holds,wo_holds,mt_holds,un_holds,va_holds,dg_holds⟩
theorem k1_holds:K1:=⟨each_one_c,rvb_holds,flb_holds,up_holds,down_holds,nb_holds⟩
theorem swaps_both:CT2/\CO1:=⟨two_prim k2_holds wd_holds ot_holds ni_holds,one_prim k2_holds k1_holds rd_holds sc_holds⟩
end Go.Proofs.YtkmmkcpfhnifhaaGreatDoor
