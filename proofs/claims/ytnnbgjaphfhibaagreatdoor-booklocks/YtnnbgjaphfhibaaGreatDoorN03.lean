import Derived.Shelf.Unicode.DecodeAny
import Derived.Test.YtnnbgjaphfhibaaGreatDoorProg
import Derived.Shelf.Small.Wraps
set_option linter.unusedVariables false
set_option linter.unusedSimpArgs false
set_option maxRecDepth 100000
set_option maxHeartbeats 6400000
open Go.Proofs.Tryz
namespace Go.Proofs
open Go.Shelf
def Tryz.lays197_ren:Go.Shelf.Ren:=⟨fun|197=>216|260=>231|n=>n,fun|22=>244|24=>150|25=>151|27=>87|28=>43|30=>76|32=>153|33=>113|37=>90|40=>300|41=>110|42=>274|46=>157|47=>156|48=>185|49=>338|51=>199|52=>198|53=>201|54=>200|55=>297|67=>120|69=>98|70=>89|71=>91|72=>92|73=>162|74=>93|75=>94|76=>95|77=>96|79=>288|80=>100|81=>164|83=>97|84=>160|85=>306|86=>307|100=>161|101=>49|103=>152|104=>34|105=>289|106=>290|108=>315|111=>165|114=>251|119=>301|126=>298|127=>121|128=>299|131=>80|135=>207|137=>302|138=>303|139=>304|143=>317|144=>318|145=>319|164=>158|165=>159|166=>260|167=>305|168=>308|169=>309|170=>310|171=>202|172=>203|173=>204|174=>205|175=>311|176=>312|182=>192|183=>193|188=>255|189=>256|190=>257|191=>258|192=>259|209=>313|210=>314|211=>252|212=>253|213=>254|214=>316|218=>245|219=>246|220=>247|222=>249|224=>284|225=>285|228=>281|229=>282|231=>295|232=>293|233=>294|238=>320|239=>321|240=>322|241=>323|242=>324|243=>326|244=>174|245=>327|246=>328|247=>329|248=>330|249=>331|n=>n,fun|1=>7|3=>10|4=>11|15=>12|16=>13|17=>5|18=>8|19=>9|n=>n⟩
theorem Tryz.lays197:Go.Proofs.Lays.n197 prog Tryz.lays197_ren:={
 mixed:=by kernel_rfl
 f197:=func216.trans (congrArg some (by kernel_rfl))
 f260:=func231.trans (congrArg some (by kernel_rfl))
 t0:=underlying0
 a0:=isAgg0
 z0:=sizeOf0
 v0:=zeroValue0
 t3:=underlying3
 a3:=isAgg3
 z3:=sizeOf3
 v3:=zeroValue3
 t4:=underlying4
 a4:=isAgg4
 z4:=sizeOf4
 v4:=zeroValue4
 t5:=underlying5
 a5:=isAgg5
 z5:=sizeOf5
 v5:=zeroValue5
 t9:=underlying9
 a9:=isAgg9
 z9:=sizeOf9
 v9:=zeroValue9
 t21:=underlying21
 a21:=isAgg21
 z21:=sizeOf21
 v21:=zeroValue21
 t46:=underlying157
 a46:=isAgg157
 z46:=sizeOf157
 v46:=zeroValue157
 t105:=underlying289
 a105:=isAgg289
 z105:=sizeOf289
 v105:=zeroValue289
 t119:=underlying301
 a119:=isAgg301
 z119:=sizeOf301
 t138:=underlying303
 a138:=isAgg303
 z138:=sizeOf303
 v138:=zeroValue303
 t139:=underlying304
 a139:=isAgg304
 z139:=sizeOf304
 v139:=zeroValue304
 g3:=by kernel_rfl
 g4:=by kernel_rfl }
end Go.Proofs
namespace Go.Proofs
open Go.Shelf
def Tryz.lays103_ren:Go.Shelf.Ren:=⟨fun|103=>91|206=>170|210=>128|n=>n,fun|22=>244|24=>150|25=>151|27=>87|28=>43|30=>76|32=>153|33=>113|37=>90|40=>300|41=>110|42=>274|46=>157|47=>156|48=>185|49=>338|51=>199|52=>198|53=>201|54=>200|55=>297|67=>120|69=>98|70=>89|71=>91|72=>92|73=>162|74=>93|75=>94|76=>95|77=>96|79=>288|80=>100|81=>164|83=>97|84=>160|85=>306|86=>307|100=>161|101=>49|103=>152|104=>34|105=>289|106=>290|108=>315|111=>165|114=>251|119=>301|126=>298|127=>121|128=>299|131=>80|135=>207|137=>302|138=>303|139=>304|143=>317|144=>318|145=>319|164=>158|165=>159|166=>260|167=>305|168=>308|169=>309|170=>310|171=>202|172=>203|173=>204|174=>205|175=>311|176=>312|182=>192|183=>193|188=>255|189=>256|190=>257|191=>258|192=>259|209=>313|210=>314|211=>252|212=>253|213=>254|214=>316|218=>245|219=>246|220=>247|222=>249|224=>284|225=>285|228=>281|229=>282|231=>295|232=>293|233=>294|238=>320|239=>321|240=>322|241=>323|242=>324|243=>326|244=>174|245=>327|246=>328|247=>329|248=>330|249=>331|n=>n,fun|1=>7|3=>10|4=>11|15=>12|16=>13|17=>5|18=>8|19=>9|n=>n⟩
theorem Tryz.lays103:Go.Proofs.Lays.n103 prog Tryz.lays103_ren:={
 mixed:=by kernel_rfl
 f103:=func91.trans (congrArg some (by kernel_rfl))
 f206:=func170.trans (congrArg some (by kernel_rfl))
 f210:=func128.trans (congrArg some (by kernel_rfl))
 t3:=underlying3
 a3:=isAgg3
 z3:=sizeOf3
 v3:=zeroValue3
 t4:=underlying4
 a4:=isAgg4
 z4:=sizeOf4
 v4:=zeroValue4
 t9:=underlying9
 a9:=isAgg9
 z9:=sizeOf9
 v9:=zeroValue9
 t24:=underlying150
 a24:=isAgg150
 z24:=sizeOf150
 v24:=zeroValue150 }
end Go.Proofs
