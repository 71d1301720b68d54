import Derived.Shelf.Small.Wraps
import Derived.Shelf.Strings.Trim
import Derived.Shelf.Strings.Search2
import Derived.Test.YteciokcdpadmpaaGreatDoorProg
set_option linter.all false
set_option maxRecDepth 100000
set_option maxHeartbeats 0
open Go.Proofs.Tryz
namespace Go.Proofs
open Go.Shelf
def Tryz.lays122_ren:Go.Shelf.Ren:=⟨fun|122=>87|215=>106|n=>n,fun|22=>59|23=>252|27=>94|28=>25|30=>117|31=>53|37=>225|40=>299|41=>96|42=>157|43=>95|46=>156|47=>155|51=>190|52=>189|53=>63|54=>191|55=>279|59=>212|60=>213|63=>283|64=>292|68=>163|69=>193|80=>301|81=>125|104=>57|105=>281|106=>282|111=>88|112=>206|114=>280|115=>266|116=>267|117=>268|118=>269|119=>295|122=>265|123=>270|124=>271|127=>272|131=>187|137=>296|138=>297|139=>298|146=>290|151=>291|164=>320|222=>197|228=>254|229=>35|238=>302|239=>303|240=>304|241=>305|242=>306|243=>307|244=>308|245=>309|246=>310|247=>311|248=>312|249=>313|n=>n,fun|1=>0|3=>1|4=>2|n=>n⟩
theorem Tryz.lays122:Go.Proofs.Lays.n122 prog Tryz.lays122_ren:={
 mixed:=by kernel_rfl
 f122:=func87.trans (congrArg some (by kernel_rfl))
 f215:=func106.trans (congrArg some (by kernel_rfl))
 t3:=underlying3
 a3:=isAgg3
 z3:=sizeOf3
 v3:=zeroValue3
 t4:=underlying4
 a4:=isAgg4
 z4:=sizeOf4
 v4:=zeroValue4 }
def Tryz.lays161_ren:Go.Shelf.Ren:=⟨fun|119=>229|137=>228|151=>210|152=>224|161=>172|197=>209|217=>204|224=>206|225=>205|227=>187|228=>208|231=>186|233=>188|235=>189|260=>223|266=>221|n=>n,fun|22=>59|23=>252|27=>94|28=>25|30=>117|31=>53|37=>225|40=>299|41=>96|42=>157|43=>95|46=>156|47=>155|51=>190|52=>189|53=>63|54=>191|55=>279|59=>212|60=>213|63=>283|64=>292|68=>163|69=>193|80=>301|81=>125|104=>57|105=>281|106=>282|111=>88|112=>206|114=>280|115=>266|116=>267|117=>268|118=>269|119=>295|122=>265|123=>270|124=>271|127=>272|131=>187|137=>296|138=>297|139=>298|146=>290|151=>291|164=>320|222=>197|228=>254|229=>35|238=>302|239=>303|240=>304|241=>305|242=>306|243=>307|244=>308|245=>309|246=>310|247=>311|248=>312|249=>313|n=>n,fun|1=>0|3=>1|4=>2|n=>n⟩
theorem Tryz.lays161:Go.Proofs.Lays.n161 prog Tryz.lays161_ren:={
 mixed:=by kernel_rfl
 f119:=func229.trans (congrArg some (by kernel_rfl))
 f137:=func228.trans (congrArg some (by kernel_rfl))
 f151:=func210.trans (congrArg some (by kernel_rfl))
 f152:=func224.trans (congrArg some (by kernel_rfl))
 f161:=func172.trans (congrArg some (by kernel_rfl))
 f197:=func209.trans (congrArg some (by kernel_rfl))
 f217:=func204.trans (congrArg some (by kernel_rfl))
 f224:=func206.trans (congrArg some (by kernel_rfl))
 f225:=func205.trans (congrArg some (by kernel_rfl))
 f227:=func187.trans (congrArg some (by kernel_rfl))
 f228:=func208.trans (congrArg some (by kernel_rfl))
 f231:=func186.trans (congrArg some (by kernel_rfl))
 f233:=func188.trans (congrArg some (by kernel_rfl))
 f235:=func189.trans (congrArg some (by kernel_rfl))
 f260:=func223.trans (congrArg some (by kernel_rfl))
 f266:=func221.trans (congrArg some (by kernel_rfl))
 t0:=underlying0
 a0:=isAgg0
 z0:=sizeOf0
 v0:=zeroValue0
 t3:=underlying3
 a3:=isAgg3
 z3:=sizeOf3
 v3:=zeroValue3
 t4:=underlying4
 a4:=isAgg4
 z4:=sizeOf4
 v4:=zeroValue4
 t5:=underlying5
 a5:=isAgg5
 z5:=sizeOf5
 v5:=zeroValue5
 t9:=underlying9
 a9:=isAgg9
 z9:=sizeOf9
 v9:=zeroValue9
 t21:=underlying21
 a21:=isAgg21
 z21:=sizeOf21
 v21:=zeroValue21
 t46:=underlying156
 a46:=isAgg156
 z46:=sizeOf156
 v46:=zeroValue156
 t105:=underlying281
 a105:=isAgg281
 z105:=sizeOf281
 v105:=zeroValue281
 t116:=underlying267
 a116:=isAgg267
 z116:=sizeOf267
 t117:=underlying268
 a117:=isAgg268
 z117:=sizeOf268
 v117:=zeroValue268
 t119:=underlying295
 a119:=isAgg295
 z119:=sizeOf295
 t124:=underlying271
 a124:=isAgg271
 z124:=sizeOf271
 v124:=zeroValue271
 t138:=underlying297
 a138:=isAgg297
 z138:=sizeOf297
 v138:=zeroValue297
 t139:=underlying298
 a139:=isAgg298
 z139:=sizeOf298
 v139:=zeroValue298
 g3:=by kernel_rfl
 g4:=by kernel_rfl }
def Tryz.lays219_ren:Go.Shelf.Ren:=⟨fun|217=>204|219=>185|224=>206|225=>205|266=>221|267=>207|314=>222|n=>n,fun|22=>59|23=>252|27=>94|28=>25|30=>117|31=>53|37=>225|40=>299|41=>96|42=>157|43=>95|46=>156|47=>155|51=>190|52=>189|53=>63|54=>191|55=>279|59=>212|60=>213|63=>283|64=>292|68=>163|69=>193|80=>301|81=>125|104=>57|105=>281|106=>282|111=>88|112=>206|114=>280|115=>266|116=>267|117=>268|118=>269|119=>295|122=>265|123=>270|124=>271|127=>272|131=>187|137=>296|138=>297|139=>298|146=>290|151=>291|164=>320|222=>197|228=>254|229=>35|238=>302|239=>303|240=>304|241=>305|242=>306|243=>307|244=>308|245=>309|246=>310|247=>311|248=>312|249=>313|n=>n,fun|1=>0|3=>1|4=>2|n=>n⟩
theorem Tryz.lays219:Go.Proofs.Lays.n219 prog Tryz.lays219_ren:={
 mixed:=by kernel_rfl
 f217:=func204.trans (congrArg some (by kernel_rfl))
 f219:=func185.trans (congrArg some (by kernel_rfl))
 f224:=func206.trans (congrArg some (by kernel_rfl))
 f225:=func205.trans (congrArg some (by kernel_rfl))
 f266:=func221.trans (congrArg some (by kernel_rfl))
 f267:=func207.trans (congrArg some (by kernel_rfl))
 f314:=func222.trans (congrArg some (by kernel_rfl))
 t3:=underlying3
 a3:=isAgg3
 z3:=sizeOf3
 v3:=zeroValue3
 t4:=underlying4
 a4:=isAgg4
 z4:=sizeOf4
 v4:=zeroValue4
 t5:=underlying5
 a5:=isAgg5
 z5:=sizeOf5
 v5:=zeroValue5
 t9:=underlying9
 a9:=isAgg9
 z9:=sizeOf9
 v9:=zeroValue9
 t46:=underlying156
 a46:=isAgg156
 z46:=sizeOf156
 v46:=zeroValue156
 t51:=underlying190
 a51:=isAgg190
 z51:=sizeOf190
 v51:=zeroValue190
 t146:=underlying290
 a146:=isAgg290
 z146:=sizeOf290
 v146:=zeroValue290
 g1:=by kernel_rfl }
end Go.Proofs
