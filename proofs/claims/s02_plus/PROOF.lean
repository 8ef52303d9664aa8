import PyProof.Rows.All
import Wide.All
import OpenK.AllK
import Wide.FinOn
import KE.OsGo
import KE.OsArgs
import PySem.Challenge.RW_exactqubits_s02_plus
open PySem PySem.W
set_option Elab.async false
theorem plus_said : PySem.Challenge.rw_exactqubits_s02_plus.wellSaid = true := by decide +kernel
set_option maxRecDepth 100000 in
set_option maxHeartbeats 8000000 in
theorem PySem.Challenge.cw_exactqubits_s02_plus_holds : PySem.Challenge.rw_exactqubits_s02_plus.Holds := by
  open_ks with [.int 0, .int 0, .int 0, .int 0, .int 0, .int 0, .int 0, .int 0]
  os_open plus_said with a w q e
  obtain ⟨x0, x1, x2, x3, x4, x5, x6, x7, u⟩ := a
  have e0 := os_j_int (List.cons.inj e).1
  have t1 := (List.cons.inj e).2
  have e1 := os_j_int (List.cons.inj t1).1
  have t2 := (List.cons.inj t1).2
  have e2 := os_j_int (List.cons.inj t2).1
  have t3 := (List.cons.inj t2).2
  have e3 := os_j_int (List.cons.inj t3).1
  have t4 := (List.cons.inj t3).2
  have e4 := os_j_int (List.cons.inj t4).1
  have t5 := (List.cons.inj t4).2
  have e5 := os_j_int (List.cons.inj t5).1
  have t6 := (List.cons.inj t5).2
  have e6 := os_j_int (List.cons.inj t6).1
  have t7 := (List.cons.inj t6).2
  have e7 := os_j_int (List.cons.inj t7).1
  subst e0 e1 e2 e3 e4 e5 e6 e7
  rfl
#print axioms PySem.Challenge.cw_exactqubits_s02_plus_holds
