import PyProof.Rows.All
import Wide.All
import OpenK.AllK
import Wide.FinOn
import KE.OsGo
import KE.OsArgs
import PySem.Challenge.RW_exactqubits_s10_size
open PySem PySem.W
set_option Elab.async false
theorem size_said : PySem.Challenge.rw_exactqubits_s10_size.wellSaid = true := by decide +kernel
set_option maxRecDepth 100000 in
set_option maxHeartbeats 8000000 in
theorem PySem.Challenge.cw_exactqubits_s10_size_holds : PySem.Challenge.rw_exactqubits_s10_size.Holds := by
  open_ks with [.int 0, .int 0, .int 0, .int 0]
  os_open size_said with a w q e
  obtain ⟨x0, x1, x2, x3, u⟩ := a
  have e0 := os_j_int (List.cons.inj e).1
  have t1 := (List.cons.inj e).2
  have e1 := os_j_int (List.cons.inj t1).1
  have t2 := (List.cons.inj t1).2
  have e2 := os_j_int (List.cons.inj t2).1
  have t3 := (List.cons.inj t2).2
  have e3 := os_j_int (List.cons.inj t3).1
  subst e0 e1 e2 e3
  rfl
