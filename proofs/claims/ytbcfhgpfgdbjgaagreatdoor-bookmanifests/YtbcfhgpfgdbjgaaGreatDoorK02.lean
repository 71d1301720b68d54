import Derived.Shelf.Small.Strs
import Derived.Test.YtbcfhgpfgdbjgaaGreatDoorProg
import Derived.Shelf.Strconv.Clone
import Derived.Shelf.SlSortCmp.NoneTotal
set_option linter.all false
set_option maxRecDepth 100000
set_option maxHeartbeats 0
open Go.Proofs.Tryz
namespace Go.Proofs
open Go.Shelf
def Tryz.lays137_ren:Go.Shelf.Ren:=⟨fun|137=>172|217=>198|266=>220|n=>n,fun|22=>258|23=>316|27=>269|28=>46|30=>50|31=>113|37=>245|40=>290|41=>82|42=>204|43=>268|46=>282|47=>281|48=>123|49=>380|51=>292|52=>312|53=>314|54=>313|55=>271|59=>283|60=>284|63=>342|64=>346|69=>209|70=>249|71=>250|72=>251|76=>205|77=>257|79=>254|80=>160|81=>134|83=>247|84=>343|85=>298|86=>299|104=>37|105=>255|106=>256|108=>322|111=>135|112=>195|114=>289|115=>329|116=>330|117=>331|118=>332|119=>293|122=>328|123=>333|124=>334|126=>272|127=>273|128=>274|131=>310|137=>294|138=>295|139=>296|143=>336|144=>337|145=>338|146=>344|151=>345|164=>137|165=>291|167=>297|168=>300|169=>301|170=>302|171=>347|172=>348|173=>349|174=>350|175=>318|176=>319|182=>305|183=>306|209=>320|210=>321|211=>351|212=>352|213=>353|214=>335|218=>323|219=>324|220=>325|222=>196|228=>339|229=>340|232=>354|233=>355|238=>356|239=>357|240=>358|241=>359|242=>360|243=>362|244=>145|245=>363|246=>364|247=>365|248=>366|249=>367|n=>n,fun|1=>10|3=>6|4=>7|15=>8|16=>9|17=>11|18=>12|19=>13|n=>n⟩
theorem Tryz.lays137:Go.Proofs.Lays.n137 prog Tryz.lays137_ren:={
 mixed:=by kernel_rfl
 f137:=func172.trans (congrArg some (by kernel_rfl))
 f217:=func198.trans (congrArg some (by kernel_rfl))
 f266:=func220.trans (congrArg some (by kernel_rfl))
 t3:=underlying3
 a3:=isAgg3
 z3:=sizeOf3
 v3:=zeroValue3
 t5:=underlying5
 a5:=isAgg5
 z5:=sizeOf5
 v5:=zeroValue5
 t9:=underlying9
 a9:=isAgg9
 z9:=sizeOf9
 v9:=zeroValue9 }
end Go.Proofs
namespace Go.Proofs
open Go.Shelf
def Tryz.lays316_ren:Go.Shelf.Ren:=⟨fun|316=>155|n=>n,fun|22=>258|23=>316|27=>269|28=>46|30=>50|31=>113|37=>245|40=>290|41=>82|42=>204|43=>268|46=>282|47=>281|48=>123|49=>380|51=>292|52=>312|53=>314|54=>313|55=>271|59=>283|60=>284|63=>342|64=>346|69=>209|70=>249|71=>250|72=>251|76=>205|77=>257|79=>254|80=>160|81=>134|83=>247|84=>343|85=>298|86=>299|104=>37|105=>255|106=>256|108=>322|111=>135|112=>195|114=>289|115=>329|116=>330|117=>331|118=>332|119=>293|122=>328|123=>333|124=>334|126=>272|127=>273|128=>274|131=>310|137=>294|138=>295|139=>296|143=>336|144=>337|145=>338|146=>344|151=>345|164=>137|165=>291|167=>297|168=>300|169=>301|170=>302|171=>347|172=>348|173=>349|174=>350|175=>318|176=>319|182=>305|183=>306|209=>320|210=>321|211=>351|212=>352|213=>353|214=>335|218=>323|219=>324|220=>325|222=>196|228=>339|229=>340|232=>354|233=>355|238=>356|239=>357|240=>358|241=>359|242=>360|243=>362|244=>145|245=>363|246=>364|247=>365|248=>366|249=>367|n=>n,fun|1=>10|3=>6|4=>7|15=>8|16=>9|17=>11|18=>12|19=>13|n=>n⟩
theorem Tryz.lays316:Go.Proofs.LaysM.n316 prog Tryz.lays316_ren:={
 mixed:=by kernel_rfl
 f316:=func155.trans (congrArg some (by kernel_rfl))
 t0:=underlying0
 a0:=isAgg0
 z0:=sizeOf0
 v0:=zeroValue0
 t3:=underlying3
 a3:=isAgg3
 z3:=sizeOf3
 v3:=zeroValue3
 t4:=underlying4
 a4:=isAgg4
 z4:=sizeOf4
 v4:=zeroValue4
 t9:=underlying9
 a9:=isAgg9
 z9:=sizeOf9
 v9:=zeroValue9
 t37:=underlying245
 a37:=isAgg245
 z37:=sizeOf245
 v37:=zeroValue245
 t127:=underlying273
 a127:=isAgg273
 z127:=sizeOf273
 v127:=zeroValue273
 t5:=underlying5
 a5:=isAgg5
 z5:=sizeOf5
 v5:=zeroValue5
 i0:=by kernel_rfl
 i3:=by kernel_rfl
 i4:=by kernel_rfl
 i5:=by kernel_rfl
 i9:=by kernel_rfl
 i37:=by kernel_rfl
 i127:=by kernel_rfl }
end Go.Proofs
namespace Go.Proofs
open Go.Shelf
def Tryz.laysSort_ren:Go.Shelf.Ren:=⟨fun|6=>164|14=>191|15=>192|20=>208|21=>209|22=>210|23=>211|24=>212|25=>213|26=>214|27=>215|28=>216|29=>217|46=>224|47=>225|48=>226|49=>227|50=>228|57=>237|n=>n,fun|22=>237|23=>265|24=>240|25=>266|27=>46|29=>268|37=>280|38=>281|39=>282|42=>135|44=>304|45=>305|46=>306|47=>307|48=>308|49=>309|50=>310|51=>311|52=>312|53=>292|54=>313|55=>314|66=>323|67=>324|68=>325|69=>326|70=>196|71=>327|76=>339|77=>340|78=>341|81=>160|82=>356|83=>357|84=>358|85=>359|86=>360|87=>134|88=>362|89=>145|90=>363|91=>273|92=>364|93=>365|94=>366|95=>367|96=>137|n=>n,fun n=>n⟩
theorem Tryz.laysSort:Go.Proofs.SlLaysF0.n6 prog Tryz.laysSort_ren:={
 mixed:=by kernel_rfl
 f6:=⟨ "slices.SortFunc[[]pantry/span.edge,pantry/span.edge]",by decide,func164.trans (congrArg some (by kernel_rfl))⟩
 f14:=⟨ "slices.pdqsortCmpFunc[pantry/span.edge]",by decide,func191.trans (congrArg some (by kernel_rfl))⟩
 f15:=func192.trans (congrArg some (by kernel_rfl))
 f20:=⟨ "slices.insertionSortCmpFunc[pantry/span.edge]",by decide,func208.trans (congrArg some (by kernel_rfl))⟩
 f21:=⟨ "slices.heapSortCmpFunc[pantry/span.edge]",by decide,func209.trans (congrArg some (by kernel_rfl))⟩
 f22:=⟨ "slices.breakPatternsCmpFunc[pantry/span.edge]",by decide,func210.trans (congrArg some (by kernel_rfl))⟩
 f23:=⟨ "slices.choosePivotCmpFunc[pantry/span.edge]",by decide,func211.trans (congrArg some (by kernel_rfl))⟩
 f24:=⟨ "slices.reverseRangeCmpFunc[pantry/span.edge]",by decide,func212.trans (congrArg some (by kernel_rfl))⟩
 f25:=⟨ "slices.partialInsertionSortCmpFunc[pantry/span.edge]",by decide,func213.trans (congrArg some (by kernel_rfl))⟩
 f26:=⟨ "slices.partitionEqualCmpFunc[pantry/span.edge]",by decide,func214.trans (congrArg some (by kernel_rfl))⟩
 f27:=⟨ "slices.partitionCmpFunc[pantry/span.edge]",by decide,func215.trans (congrArg some (by kernel_rfl))⟩
 f28:=func216.trans (congrArg some (by kernel_rfl))
 f29:=func217.trans (congrArg some (by kernel_rfl))
 f46:=⟨ "slices.siftDownCmpFunc[pantry/span.edge]",by decide,func224.trans (congrArg some (by kernel_rfl))⟩
 f47:=func225.trans (congrArg some (by kernel_rfl))
 f48:=func226.trans (congrArg some (by kernel_rfl))
 f49:=⟨ "slices.medianAdjacentCmpFunc[pantry/span.edge]",by decide,func227.trans (congrArg some (by kernel_rfl))⟩
 f50:=⟨ "slices.medianCmpFunc[pantry/span.edge]",by decide,func228.trans (congrArg some (by kernel_rfl))⟩
 f57:=⟨ "slices.order2CmpFunc[pantry/span.edge]",by decide,func237.trans (congrArg some (by kernel_rfl))⟩
 t0:=underlying0
 a0:=isAgg0
 z0:=sizeOf0
 v0:=zeroValue0
 t3:=underlying3
 a3:=isAgg3
 z3:=sizeOf3
 v3:=zeroValue3
 t4:=underlying4
 a4:=isAgg4
 z4:=sizeOf4
 v4:=zeroValue4
 t5:=underlying5
 a5:=isAgg5
 z5:=sizeOf5
 v5:=zeroValue5
 t9:=underlying9
 a9:=isAgg9
 z9:=sizeOf9
 v9:=zeroValue9
 t22:=underlying237
 a22:=isAgg237
 z22:=sizeOf237
 v22:=zeroValue237
 t25:=underlying266
 a25:=isAgg266
 z25:=sizeOf266
 v25:=zeroValue266
 t39:=underlying282
 a39:=isAgg282
 z39:=sizeOf282
 v39:=zeroValue282
 t45:=underlying305
 a45:=isAgg305
 z45:=sizeOf305
 v45:=zeroValue305
 t46:=underlying306
 a46:=isAgg306
 z46:=sizeOf306
 v46:=zeroValue306
 t50:=underlying310
 a50:=isAgg310
 z50:=sizeOf310
 v50:=zeroValue310
 t53:=underlying292
 a53:=isAgg292
 z53:=sizeOf292
 v53:=zeroValue292
 t55:=underlying314
 a55:=isAgg314
 z55:=sizeOf314
 v55:=zeroValue314
 t66:=underlying323
 a66:=isAgg323
 z66:=sizeOf323
 v66:=zeroValue323
 t70:=underlying196
 a70:=isAgg196
 z70:=sizeOf196
 v70:=zeroValue196
 t76:=underlying339
 a76:=isAgg339
 z76:=sizeOf339
 v76:=zeroValue339
 t77:=underlying340
 a77:=isAgg340
 z77:=sizeOf340
 v77:=zeroValue340 }
end Go.Proofs
