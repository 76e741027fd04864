/- What the proof leans on, part 0. -/
import Derived.Shelf.SlIterI.Nil
import Derived.Shelf.SortM.Plain
import Derived.Shelf.SortM.SortNone
import Derived.Test.YtckenjkcmajicaaGreatProg
set_option maxRecDepth 100000
set_option maxHeartbeats 8000000
open Go.Proofs.Tryz
open Go.Proofs.Tryz renaming isAgg0->KK,isAgg2->KO,isAgg4->Q7,prog->J3,sizeOf0->KL,sizeOf2->KP,sizeOf4->Q8,underlying0->KJ,underlying2->KN,underlying4->Q6,zeroValue0->KM,zeroValue2->KQ,zeroValue4->Q9

namespace Go.Proofs
open Go.Shelf
def Tryz.keysProc_ren:Go.Shelf.Ren:=⟨fun | 7=>118 | 10=>156 | n=>n,fun | 23=>102 | 26=>2 | 3=>161 | 28=>95 | 0=>0 | 27=>94 | 33=>153 | 4=>4 | n=>n,fun | n=>n⟩
theorem Tryz.keysProc:Go.Proofs.SlLaysZI.n7 J3 Tryz.keysProc_ren:= {
 mixed:=by kernel_rfl
 f7:=⟨Tryz.f118.name,by decide,Tryz.func118.trans (congrArg some (by kernel_rfl))⟩
 f10:=⟨Tryz.f156.name,by decide,Tryz.func156.trans (congrArg some (by kernel_rfl))⟩
 t0:=KJ
 a0:=KK
 z0:=KL
 v0:=KM
 t4:=Q6
 a4:=Q7
 z4:=Q8
 v4:=Q9
 t23:=Tryz.underlying102
 a23:=Tryz.isAgg102
 z23:=Tryz.sizeOf102
 v23:=Tryz.zeroValue102
 t26:=KN
 a26:=KO
 z26:=KP
 v26:=KQ
 t27:=Tryz.underlying94
 a27:=Tryz.isAgg94
 z27:=Tryz.sizeOf94
 v27:=Tryz.zeroValue94
 t28:=Tryz.underlying95
 a28:=Tryz.isAgg95
 z28:=Tryz.sizeOf95
 v28:=Tryz.zeroValue95
 t33:=Tryz.underlying153
 a33:=Tryz.isAgg153
 z33:=Tryz.sizeOf153
 v33:=Tryz.zeroValue153 }
def Tryz.sortedA_ren:Go.Shelf.Ren:=⟨fun | 6=>39 | 8=>69 | 9=>54 | 11=>112 | 13=>85 | 12=>84 | 23=>133 | 24=>134 | 14=>124 | 15=>125 | 16=>126 | 17=>127 | 18=>128 | 19=>129 | 20=>130 | 21=>131 | 22=>132 | 25=>162 | 26=>163 | 27=>164 | 28=>165 | 29=>166 | 30=>167 | 31=>180 | n=>n,fun | 26=>2 | 28=>95 | 24=>53 | 0=>0 | 3=>3 | 37=>179 | 48=>236 | 50=>189 | 4=>4 | 40=>228 | 39=>227 | 45=>233 | 5=>5 | 9=>9 | 51=>255 | 55=>258 | 57=>263 | 58=>79 | 33=>153 | n=>n,fun | n=>n⟩
theorem Tryz.sortedA:Go.Proofs.SlLaysZI.n6 J3 Tryz.sortedA_ren:= {
 mixed:=by kernel_rfl
 f6:=⟨Tryz.f39.name,by decide,Tryz.func39.trans (congrArg some (by kernel_rfl))⟩
 f8:=⟨Tryz.f69.name,by decide,Tryz.func69.trans (congrArg some (by kernel_rfl))⟩
 f11:=⟨Tryz.f112.name,by decide,Tryz.func112.trans (congrArg some (by kernel_rfl))⟩
 t0:=KJ
 a0:=KK
 z0:=KL
 v0:=KM
 t24:=Tryz.underlying53
 a24:=Tryz.isAgg53
 z24:=Tryz.sizeOf53
 v24:=Tryz.zeroValue53
 t26:=KN
 a26:=KO
 z26:=KP
 v26:=KQ
 t28:=Tryz.underlying95
 a28:=Tryz.isAgg95
 z28:=Tryz.sizeOf95
 v28:=Tryz.zeroValue95
 i26:=by kernel_rfl }
def Tryz.sortA_ren:Go.Shelf.Ren:=⟨fun | 5=>54 | 8=>85 | 7=>84 | 19=>133 | 20=>134 | 10=>124 | 11=>125 | 12=>126 | 13=>127 | 14=>128 | 15=>129 | 16=>130 | 17=>131 | 18=>132 | 30=>162 | 31=>163 | 32=>164 | 33=>165 | 34=>166 | 35=>167 | 40=>180 | n=>n,fun | 23=>53 | 25=>2 | 3=>3 | 32=>179 | 22=>53 | 0=>0 | 44=>236 | 46=>189 | 4=>4 | 36=>228 | 35=>227 | 41=>233 | 5=>5 | 9=>9 | 53=>255 | 57=>258 | 63=>263 | 64=>79 | n=>n,fun | n=>n⟩
theorem Tryz.sortA:Go.Proofs.SlLaysM.n5 J3 Tryz.sortA_ren:= {
 mixed:=by kernel_rfl
 f5:=⟨Tryz.f54.name,by decide,Tryz.func54.trans (congrArg some (by kernel_rfl))⟩
 f7:=⟨Tryz.f84.name,by decide,Tryz.func84.trans (congrArg some (by kernel_rfl))⟩
 f8:=Tryz.func85.trans (congrArg some (by kernel_rfl))
 f10:=⟨Tryz.f124.name,by decide,Tryz.func124.trans (congrArg some (by kernel_rfl))⟩
 f11:=⟨Tryz.f125.name,by decide,Tryz.func125.trans (congrArg some (by kernel_rfl))⟩
 f12:=⟨Tryz.f126.name,by decide,Tryz.func126.trans (congrArg some (by kernel_rfl))⟩
 f13:=⟨Tryz.f127.name,by decide,Tryz.func127.trans (congrArg some (by kernel_rfl))⟩
 f14:=⟨Tryz.f128.name,by decide,Tryz.func128.trans (congrArg some (by kernel_rfl))⟩
 f15:=⟨Tryz.f129.name,by decide,Tryz.func129.trans (congrArg some (by kernel_rfl))⟩
 f16:=⟨Tryz.f130.name,by decide,Tryz.func130.trans (congrArg some (by kernel_rfl))⟩
 f17:=⟨Tryz.f131.name,by decide,Tryz.func131.trans (congrArg some (by kernel_rfl))⟩
 f18:=⟨Tryz.f132.name,by decide,Tryz.func132.trans (congrArg some (by kernel_rfl))⟩
 f19:=Tryz.func133.trans (congrArg some (by kernel_rfl))
 f20:=Tryz.func134.trans (congrArg some (by kernel_rfl))
 f30:=⟨Tryz.f162.name,by decide,Tryz.func162.trans (congrArg some (by kernel_rfl))⟩
 f31:=Tryz.func163.trans (congrArg some (by kernel_rfl))
 f32:=Tryz.func164.trans (congrArg some (by kernel_rfl))
 f33:=⟨Tryz.f165.name,by decide,Tryz.func165.trans (congrArg some (by kernel_rfl))⟩
 f34:=⟨Tryz.f166.name,by decide,Tryz.func166.trans (congrArg some (by kernel_rfl))⟩
 f35:=⟨Tryz.f167.name,by decide,Tryz.func167.trans (congrArg some (by kernel_rfl))⟩
 f40:=⟨Tryz.f180.name,by decide,Tryz.func180.trans (congrArg some (by kernel_rfl))⟩
 t0:=KJ
 a0:=KK
 z0:=KL
 v0:=KM
 t3:=Tryz.underlying3
 a3:=Tryz.isAgg3
 z3:=Tryz.sizeOf3
 v3:=Tryz.zeroValue3
 t4:=Q6
 a4:=Q7
 z4:=Q8
 v4:=Q9
 t5:=Tryz.underlying5
 a5:=Tryz.isAgg5
 z5:=Tryz.sizeOf5
 v5:=Tryz.zeroValue5
 t9:=Tryz.underlying9
 a9:=Tryz.isAgg9
 z9:=Tryz.sizeOf9
 v9:=Tryz.zeroValue9
 t22:=Tryz.underlying53
 a22:=Tryz.isAgg53
 z22:=Tryz.sizeOf53
 v22:=Tryz.zeroValue53
 t23:=Tryz.underlying53
 a23:=Tryz.isAgg53
 z23:=Tryz.sizeOf53
 v23:=Tryz.zeroValue53
 t25:=KN
 a25:=KO
 z25:=KP
 v25:=KQ
 t32:=Tryz.underlying179
 a32:=Tryz.isAgg179
 z32:=Tryz.sizeOf179
 v32:=Tryz.zeroValue179
 t35:=Tryz.underlying227
 a35:=Tryz.isAgg227
 z35:=Tryz.sizeOf227
 v35:=Tryz.zeroValue227
 t36:=Tryz.underlying228
 a36:=Tryz.isAgg228
 z36:=Tryz.sizeOf228
 v36:=Tryz.zeroValue228
 t41:=Tryz.underlying233
 a41:=Tryz.isAgg233
 z41:=Tryz.sizeOf233
 v41:=Tryz.zeroValue233
 t44:=Tryz.underlying236
 a44:=Tryz.isAgg236
 z44:=Tryz.sizeOf236
 v44:=Tryz.zeroValue236
 t46:=Tryz.underlying189
 a46:=Tryz.isAgg189
 z46:=Tryz.sizeOf189
 v46:=Tryz.zeroValue189
 t53:=Tryz.underlying255
 a53:=Tryz.isAgg255
 z53:=Tryz.sizeOf255
 v53:=Tryz.zeroValue255
 t57:=Tryz.underlying258
 a57:=Tryz.isAgg258
 z57:=Tryz.sizeOf258
 v57:=Tryz.zeroValue258
 t63:=Tryz.underlying263
 a63:=Tryz.isAgg263
 z63:=Tryz.sizeOf263
 v63:=Tryz.zeroValue263
 t64:=Tryz.underlying79
 a64:=Tryz.isAgg79
 z64:=Tryz.sizeOf79
 v64:=Tryz.zeroValue79 }
end Go.Proofs
