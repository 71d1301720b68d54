import Derived.Shelf.Small.Wraps
import Derived.Shelf.Strings.Trim
import Derived.Shelf.Strings.Search2
import Derived.Test.YtiinliaoojfjaaaGreatDoorProg
set_option linter.all false
set_option maxRecDepth 100000
set_option maxHeartbeats 0
open Go.Proofs.Tryz
namespace Go.Proofs
open Go.Shelf
def Tryz.lays122_ren:Go.Shelf.Ren:=⟨fun|122=>123|215=>135|n=>n,fun|22=>89|23=>270|27=>109|28=>31|29=>137|30=>157|31=>67|34=>44|37=>265|40=>317|41=>139|42=>142|43=>108|46=>192|47=>191|51=>214|52=>213|53=>113|54=>215|55=>297|59=>231|60=>232|63=>301|64=>310|68=>146|69=>169|80=>319|81=>98|101=>84|102=>138|104=>88|105=>299|106=>300|111=>130|112=>218|114=>298|115=>284|116=>285|117=>286|118=>287|119=>313|122=>283|123=>288|124=>289|127=>296|131=>211|137=>314|138=>315|139=>316|146=>308|151=>309|164=>339|182=>206|183=>207|218=>237|219=>238|220=>239|222=>219|228=>272|229=>52|238=>320|239=>321|240=>322|241=>323|242=>324|243=>325|244=>326|245=>327|246=>328|247=>329|248=>330|249=>331|n=>n,fun|1=>0|3=>1|4=>2|n=>n⟩
theorem Tryz.lays122:Go.Proofs.Lays.n122 prog Tryz.lays122_ren:={
 mixed:=by kernel_rfl
 f122:=func123.trans (congrArg some (by kernel_rfl))
 f215:=func135.trans (congrArg some (by kernel_rfl))
 t3:=underlying3
 a3:=isAgg3
 z3:=sizeOf3
 v3:=zeroValue3
 t4:=underlying4
 a4:=isAgg4
 z4:=sizeOf4
 v4:=zeroValue4 }
def Tryz.lays161_ren:Go.Shelf.Ren:=⟨fun|119=>245|137=>244|151=>226|152=>240|161=>188|197=>225|217=>220|224=>222|225=>221|227=>203|228=>224|231=>202|233=>204|235=>205|260=>239|266=>237|n=>n,fun|22=>89|23=>270|27=>109|28=>31|29=>137|30=>157|31=>67|34=>44|37=>265|40=>317|41=>139|42=>142|43=>108|46=>192|47=>191|51=>214|52=>213|53=>113|54=>215|55=>297|59=>231|60=>232|63=>301|64=>310|68=>146|69=>169|80=>319|81=>98|101=>84|102=>138|104=>88|105=>299|106=>300|111=>130|112=>218|114=>298|115=>284|116=>285|117=>286|118=>287|119=>313|122=>283|123=>288|124=>289|127=>296|131=>211|137=>314|138=>315|139=>316|146=>308|151=>309|164=>339|182=>206|183=>207|218=>237|219=>238|220=>239|222=>219|228=>272|229=>52|238=>320|239=>321|240=>322|241=>323|242=>324|243=>325|244=>326|245=>327|246=>328|247=>329|248=>330|249=>331|n=>n,fun|1=>0|3=>1|4=>2|n=>n⟩
theorem Tryz.lays161:Go.Proofs.Lays.n161 prog Tryz.lays161_ren:={
 mixed:=by kernel_rfl
 f119:=func245.trans (congrArg some (by kernel_rfl))
 f137:=func244.trans (congrArg some (by kernel_rfl))
 f151:=func226.trans (congrArg some (by kernel_rfl))
 f152:=func240.trans (congrArg some (by kernel_rfl))
 f161:=func188.trans (congrArg some (by kernel_rfl))
 f197:=func225.trans (congrArg some (by kernel_rfl))
 f217:=func220.trans (congrArg some (by kernel_rfl))
 f224:=func222.trans (congrArg some (by kernel_rfl))
 f225:=func221.trans (congrArg some (by kernel_rfl))
 f227:=func203.trans (congrArg some (by kernel_rfl))
 f228:=func224.trans (congrArg some (by kernel_rfl))
 f231:=func202.trans (congrArg some (by kernel_rfl))
 f233:=func204.trans (congrArg some (by kernel_rfl))
 f235:=func205.trans (congrArg some (by kernel_rfl))
 f260:=func239.trans (congrArg some (by kernel_rfl))
 f266:=func237.trans (congrArg some (by kernel_rfl))
 t0:=underlying0
 a0:=isAgg0
 z0:=sizeOf0
 v0:=zeroValue0
 t3:=underlying3
 a3:=isAgg3
 z3:=sizeOf3
 v3:=zeroValue3
 t4:=underlying4
 a4:=isAgg4
 z4:=sizeOf4
 v4:=zeroValue4
 t5:=underlying5
 a5:=isAgg5
 z5:=sizeOf5
 v5:=zeroValue5
 t9:=underlying9
 a9:=isAgg9
 z9:=sizeOf9
 v9:=zeroValue9
 t21:=underlying21
 a21:=isAgg21
 z21:=sizeOf21
 v21:=zeroValue21
 t46:=underlying192
 a46:=isAgg192
 z46:=sizeOf192
 v46:=zeroValue192
 t105:=underlying299
 a105:=isAgg299
 z105:=sizeOf299
 v105:=zeroValue299
 t116:=underlying285
 a116:=isAgg285
 z116:=sizeOf285
 t117:=underlying286
 a117:=isAgg286
 z117:=sizeOf286
 v117:=zeroValue286
 t119:=underlying313
 a119:=isAgg313
 z119:=sizeOf313
 t124:=underlying289
 a124:=isAgg289
 z124:=sizeOf289
 v124:=zeroValue289
 t138:=underlying315
 a138:=isAgg315
 z138:=sizeOf315
 v138:=zeroValue315
 t139:=underlying316
 a139:=isAgg316
 z139:=sizeOf316
 v139:=zeroValue316
 g3:=by kernel_rfl
 g4:=by kernel_rfl }
def Tryz.lays219_ren:Go.Shelf.Ren:=⟨fun|217=>220|219=>201|224=>222|225=>221|266=>237|267=>223|314=>238|n=>n,fun|22=>89|23=>270|27=>109|28=>31|29=>137|30=>157|31=>67|34=>44|37=>265|40=>317|41=>139|42=>142|43=>108|46=>192|47=>191|51=>214|52=>213|53=>113|54=>215|55=>297|59=>231|60=>232|63=>301|64=>310|68=>146|69=>169|80=>319|81=>98|101=>84|102=>138|104=>88|105=>299|106=>300|111=>130|112=>218|114=>298|115=>284|116=>285|117=>286|118=>287|119=>313|122=>283|123=>288|124=>289|127=>296|131=>211|137=>314|138=>315|139=>316|146=>308|151=>309|164=>339|182=>206|183=>207|218=>237|219=>238|220=>239|222=>219|228=>272|229=>52|238=>320|239=>321|240=>322|241=>323|242=>324|243=>325|244=>326|245=>327|246=>328|247=>329|248=>330|249=>331|n=>n,fun|1=>0|3=>1|4=>2|n=>n⟩
theorem Tryz.lays219:Go.Proofs.Lays.n219 prog Tryz.lays219_ren:={
 mixed:=by kernel_rfl
 f217:=func220.trans (congrArg some (by kernel_rfl))
 f219:=func201.trans (congrArg some (by kernel_rfl))
 f224:=func222.trans (congrArg some (by kernel_rfl))
 f225:=func221.trans (congrArg some (by kernel_rfl))
 f266:=func237.trans (congrArg some (by kernel_rfl))
 f267:=func223.trans (congrArg some (by kernel_rfl))
 f314:=func238.trans (congrArg some (by kernel_rfl))
 t3:=underlying3
 a3:=isAgg3
 z3:=sizeOf3
 v3:=zeroValue3
 t4:=underlying4
 a4:=isAgg4
 z4:=sizeOf4
 v4:=zeroValue4
 t5:=underlying5
 a5:=isAgg5
 z5:=sizeOf5
 v5:=zeroValue5
 t9:=underlying9
 a9:=isAgg9
 z9:=sizeOf9
 v9:=zeroValue9
 t46:=underlying192
 a46:=isAgg192
 z46:=sizeOf192
 v46:=zeroValue192
 t51:=underlying214
 a51:=isAgg214
 z51:=sizeOf214
 v51:=zeroValue214
 t146:=underlying308
 a146:=isAgg308
 z146:=sizeOf308
 v146:=zeroValue308
 g1:=by kernel_rfl }
end Go.Proofs
