import Derived.Shelf.Strings.Prefix
import Derived.Test.YtiinliaoojfjaaaGreatDoorProg
set_option linter.all false
set_option maxRecDepth 100000
set_option maxHeartbeats 0
open Go.Proofs.Tryz
namespace Go.Proofs
open Go.Shelf
def Tryz.lays99_ren:Go.Shelf.Ren:=⟨fun|99=>190|n=>n,fun|22=>89|23=>270|27=>109|28=>31|29=>137|30=>157|31=>67|34=>44|37=>265|40=>317|41=>139|42=>142|43=>108|46=>192|47=>191|51=>214|52=>213|53=>113|54=>215|55=>297|59=>231|60=>232|63=>301|64=>310|68=>146|69=>169|80=>319|81=>98|101=>84|102=>138|104=>88|105=>299|106=>300|111=>130|112=>218|114=>298|115=>284|116=>285|117=>286|118=>287|119=>313|122=>283|123=>288|124=>289|127=>296|131=>211|137=>314|138=>315|139=>316|146=>308|151=>309|164=>339|182=>206|183=>207|218=>237|219=>238|220=>239|222=>219|228=>272|229=>52|238=>320|239=>321|240=>322|241=>323|242=>324|243=>325|244=>326|245=>327|246=>328|247=>329|248=>330|249=>331|n=>n,fun|1=>0|3=>1|4=>2|n=>n⟩
theorem Tryz.lays99:Go.Proofs.Lays.n99 prog Tryz.lays99_ren:={
 mixed:=by kernel_rfl
 f99:=func190.trans (congrArg some (by kernel_rfl))
 f206:=func206.trans (congrArg some (by kernel_rfl))
 t3:=underlying3
 a3:=isAgg3
 z3:=sizeOf3
 v3:=zeroValue3
 t4:=underlying4
 a4:=isAgg4
 z4:=sizeOf4
 v4:=zeroValue4
 t9:=underlying9
 a9:=isAgg9
 z9:=sizeOf9
 v9:=zeroValue9 }
end Go.Proofs
