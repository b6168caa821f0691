/-
 Contracts of this seat: what loops and calls leave, for all inputs. No condition.
-/
import Derived.Test.YtidpndnehbhloaaDoorSycp
import Derived.Test.YtidpndnehbhloaaDoorCo
import Derived.Test.YtidpndnehbhloaaDoorP0
set_option linter.unusedSimpArgs false
set_option linter.unusedVariables false
namespace Go.Proofs.YtidpndnehbhloaaDoor.Pa
open Go.RowKit Go.Ev Go.Proofs.YtidpndnehbhloaaDoor.Co

open Go.Proofs.YtidpndnehbhloaaDoor.P0

abbrev vu32Pa (a : E) (j : Int) : AV := .sint .u32 (.bi .sel a (.int j))
abbrev vu8Pa (a : E) (j : Int) : AV := .sint .u8 (.bi .sel a (.int j))
abbrev zPa24 : E := (.bi .add (.var 4) (.var 0))
abbrev txPa0 : E := (.bi .sel (.var 2) zPa24)
abbrev txPa1 : E := (.bi (.iop .xor .u32) (.int 4294967295) (.var 5))
abbrev zPa28 : E := (.bi .add (.var 4) (.var 5))
abbrev txPa2 : E := (.bi .pair zPa28 (.int 0))
abbrev zPa6 : E := (.bi .add (.var 1) (.var 2))
abbrev txPa3 : E := (.bi .pair zPa6 (.int 0))
abbrev txPa4 : E := (.bi .pair (.var 7) (.bi .pair (.var 9) (.int 0)))
abbrev txPa5 : E := (.bi .pair (.var 8) (.bi .pair (.var 9) (.int 0)))
abbrev txPa6 : E := (.bi .pair (.var 1) (.bi .pair (.var 2) (.int 0)))
abbrev zPa13 : E := (.bi .add (.var 0) (.int (-7)))
abbrev txPa7 : E := (.bi .sel (.var 1) zPa13)
abbrev zPa12 : E := (.bi .add (.var 0) (.int (-2)))
abbrev txPa8 : E := (.bi .sel (.var 1) zPa12)
abbrev zPa11 : E := (.bi .add (.var 0) (.int (-16)))
abbrev txPa9 : E := (.bi .sel (.var 1) zPa11)
abbrev zPa10 : E := (.bi .add (.var 0) (.int (-15)))
abbrev txPa10 : E := (.bi .sel (.var 1) zPa10)
abbrev txPa11 : E := (.bi (.iop .mul .u64) (.un (.wrap .u64) (.var 0)) (.int 8))
abbrev txPa12 : E := (.bi (.iop .shl .u32) (.bi .sel (.var 2) (.int 2)) (.int 8))
abbrev txPa13 : E := (.bi (.iop .shl .u32) (.bi .sel (.var 2) (.int 6)) (.int 8))
abbrev txPa14 : E := (.bi (.iop .shl .u32) (.bi .sel (.var 2) (.int 0)) (.int 24))
abbrev txPa15 : E := (.bi (.iop .shl .u32) (.bi .sel (.var 2) (.int 1)) (.int 16))
abbrev txPa16 : E := (.bi (.iop .shl .u32) (.bi .sel (.var 2) (.int 4)) (.int 24))
abbrev txPa17 : E := (.bi (.iop .shl .u32) (.bi .sel (.var 2) (.int 5)) (.int 16))
abbrev txPa18 : E := (.bi (.iop .shl .u32) (.bi .sel (.var 2) (.int 8)) (.int 24))
abbrev txPa19 : E := (.bi (.iop .shl .u32) (.bi .sel (.var 2) (.int 9)) (.int 16))
abbrev txPa20 : E := (.bi (.iop .shl .u32) (.bi .sel (.var 2) (.int 10)) (.int 8))
abbrev txPa21 : E := (.bi (.iop .shl .u32) (.bi .sel (.var 2) (.int 14)) (.int 8))
abbrev txPa22 : E := (.bi (.iop .shl .u32) (.bi .sel (.var 2) (.int 18)) (.int 8))
abbrev txPa23 : E := (.bi (.iop .shl .u32) (.bi .sel (.var 2) (.int 22)) (.int 8))
abbrev txPa24 : E := (.bi (.iop .shl .u32) (.bi .sel (.var 2) (.int 26)) (.int 8))
abbrev txPa25 : E := (.bi (.iop .shl .u32) (.bi .sel (.var 2) (.int 30)) (.int 8))
abbrev txPa26 : E := (.bi (.iop .shl .u32) (.bi .sel (.var 2) (.int 34)) (.int 8))
abbrev txPa27 : E := (.bi (.iop .shl .u32) (.bi .sel (.var 2) (.int 38)) (.int 8))
abbrev txPa28 : E := (.bi (.iop .shl .u32) (.bi .sel (.var 2) (.int 42)) (.int 8))
abbrev txPa29 : E := (.bi (.iop .shl .u32) (.bi .sel (.var 2) (.int 46)) (.int 8))
abbrev txPa30 : E := (.bi (.iop .shl .u32) (.bi .sel (.var 2) (.int 50)) (.int 8))
abbrev txPa31 : E := (.bi (.iop .shl .u32) (.bi .sel (.var 2) (.int 54)) (.int 8))
abbrev txPa32 : E := (.bi (.iop .shl .u32) (.bi .sel (.var 2) (.int 58)) (.int 8))
abbrev txPa33 : E := (.bi (.iop .shl .u32) (.bi .sel (.var 2) (.int 62)) (.int 8))
abbrev txPa34 : E := (.bi (.iop .shl .u32) (.bi .sel (.var 2) (.int 12)) (.int 24))
abbrev txPa35 : E := (.bi (.iop .shl .u32) (.bi .sel (.var 2) (.int 13)) (.int 16))
abbrev txPa36 : E := (.bi (.iop .shl .u32) (.bi .sel (.var 2) (.int 16)) (.int 24))
abbrev txPa37 : E := (.bi (.iop .shl .u32) (.bi .sel (.var 2) (.int 17)) (.int 16))
abbrev txPa38 : E := (.bi (.iop .shl .u32) (.bi .sel (.var 2) (.int 20)) (.int 24))
abbrev txPa39 : E := (.bi (.iop .shl .u32) (.bi .sel (.var 2) (.int 21)) (.int 16))
abbrev txPa40 : E := (.bi (.iop .shl .u32) (.bi .sel (.var 2) (.int 24)) (.int 24))
abbrev txPa41 : E := (.bi (.iop .shl .u32) (.bi .sel (.var 2) (.int 25)) (.int 16))
abbrev txPa42 : E := (.bi (.iop .shl .u32) (.bi .sel (.var 2) (.int 28)) (.int 24))
abbrev txPa43 : E := (.bi (.iop .shl .u32) (.bi .sel (.var 2) (.int 29)) (.int 16))
abbrev txPa44 : E := (.bi (.iop .shl .u32) (.bi .sel (.var 2) (.int 32)) (.int 24))
abbrev txPa45 : E := (.bi (.iop .shl .u32) (.bi .sel (.var 2) (.int 33)) (.int 16))
abbrev txPa46 : E := (.bi (.iop .shl .u32) (.bi .sel (.var 2) (.int 36)) (.int 24))
abbrev txPa47 : E := (.bi (.iop .shl .u32) (.bi .sel (.var 2) (.int 37)) (.int 16))
abbrev txPa48 : E := (.bi (.iop .shl .u32) (.bi .sel (.var 2) (.int 40)) (.int 24))
abbrev txPa49 : E := (.bi (.iop .shl .u32) (.bi .sel (.var 2) (.int 41)) (.int 16))
abbrev txPa50 : E := (.bi (.iop .shl .u32) (.bi .sel (.var 2) (.int 44)) (.int 24))
abbrev txPa51 : E := (.bi (.iop .shl .u32) (.bi .sel (.var 2) (.int 45)) (.int 16))
abbrev txPa52 : E := (.bi (.iop .shl .u32) (.bi .sel (.var 2) (.int 48)) (.int 24))
abbrev txPa53 : E := (.bi (.iop .shl .u32) (.bi .sel (.var 2) (.int 49)) (.int 16))
abbrev txPa54 : E := (.bi (.iop .shl .u32) (.bi .sel (.var 2) (.int 52)) (.int 24))
abbrev txPa55 : E := (.bi (.iop .shl .u32) (.bi .sel (.var 2) (.int 53)) (.int 16))
abbrev txPa56 : E := (.bi (.iop .shl .u32) (.bi .sel (.var 2) (.int 56)) (.int 24))
abbrev txPa57 : E := (.bi (.iop .shl .u32) (.bi .sel (.var 2) (.int 57)) (.int 16))
abbrev txPa58 : E := (.bi (.iop .shl .u32) (.bi .sel (.var 2) (.int 60)) (.int 24))
abbrev txPa59 : E := (.bi (.iop .shl .u32) (.bi .sel (.var 2) (.int 61)) (.int 16))
abbrev txPa60 : E := (.bi .sub (.int 119) (.bi (.iop .rem .i64) (.var 0) (.int 64)))
abbrev zPa4 : E := (.bi .add (.var 2) (.int 4))
abbrev txPa61 : E := (.tr .cut (.bi .rep zPa4 (.int 0)) (.int 0) (.int 0))
abbrev txPa62 : E := (.fn 41 (argsE [.var 1, .var 2, .bi .add (.var 4) (.var 0), .bi .add (.var 4) (.var 5)]))
abbrev txPa63 : E := (.bi .pair zPa24 txPa2)
abbrev txPa64 : E := (.bi .pair (.bi .add (.var 1) (.int 0)) txPa3)
abbrev txPa65 : E := (.bi .pair (.var 5) (.bi .pair (.var 1) txPa3))
abbrev txPa66 : E := (.bi .pair (.var 5) (.bi .pair (.var 6) txPa4))
abbrev txPa67 : E := (.bi .pair (.var 6) (.bi .pair (.var 7) txPa5))
abbrev txPa68 : E := (.bi (.iop .xor .u8) (.un (.wrap .u8) (.var 1)) txPa0)
abbrev txPa69 : E := (.bi (.iop .or .u32) (.bi (.iop .shl .u32) (.var 5) (.int 26)) (.bi (.iop .shr .u32) (.var 5) (.int 6)))
abbrev txPa70 : E := (.bi (.iop .or .u32) (.bi (.iop .shl .u32) (.var 5) (.int 7)) (.bi (.iop .shr .u32) (.var 5) (.int 25)))
abbrev txPa71 : E := (.bi (.iop .or .u32) (.bi (.iop .shl .u32) (.var 1) (.int 30)) (.bi (.iop .shr .u32) (.var 1) (.int 2)))
abbrev txPa72 : E := (.bi (.iop .xor .u32) (.bi (.iop .and .u32) (.var 1) (.var 2)) (.bi (.iop .and .u32) (.var 1) (.var 3)))
abbrev txPa73 : E := (.bi (.iop .or .u32) (.bi (.iop .shl .u32) (.var 5) (.int 21)) (.bi (.iop .shr .u32) (.var 5) (.int 11)))
abbrev txPa74 : E := (.bi (.iop .or .u32) (.bi (.iop .shl .u32) (.var 1) (.int 19)) (.bi (.iop .shr .u32) (.var 1) (.int 13)))
abbrev txPa75 : E := (.bi (.iop .or .u32) (.bi (.iop .shl .u32) (.var 1) (.int 10)) (.bi (.iop .shr .u32) (.var 1) (.int 22)))
abbrev zPa2 : E := (.bi .add (.var 0) (.int 1))
abbrev txPa76 : E := (.bi .pair (.bi .add (.var 4) zPa2) txPa2)
abbrev zPa1 : E := (.bi (.iop .rem .i64) txPa60 (.int 64))
abbrev txPa77 : E := (.bi .add zPa1 (.int 1))
abbrev txPa78 : E := (.bi .add zPa1 (.int 9))
abbrev txPa79 : E := (.bi .pair (.var 1) (.bi .pair (.var 2) txPa63))
abbrev txPa80 : E := (.bi .pair (.var 4) (.bi .pair (.var 5) txPa67))
abbrev zPa9 : E := (.fn 42 (.bi .pair (.int 0) txPa65))
abbrev txPa81 : E := (.un (.wrap .u8) zPa9)
abbrev txPa82 : E := (.bi (.iop .xor .u32) (.bi (.iop .and .u32) (.var 5) (.var 6)) (.bi (.iop .and .u32) txPa1 (.var 7)))
abbrev txPa83 : E := (.bi .app txPa61 (.tr .cut (.var 5) (.var 1) zPa6))
abbrev txPa84 : E := (.bi (.iop .shr .u32) zPa9 (.int 8))
abbrev txPa85 : E := (.bi (.iop .shr .u32) zPa9 (.int 16))
abbrev txPa86 : E := (.bi (.iop .shr .u32) zPa9 (.int 24))
abbrev txPa87 : E := (.bi (.iop .xor .u32) txPa72 (.bi (.iop .and .u32) (.var 2) (.var 3)))
abbrev txPa88 : E := (.bi .pair (.bi (.iop .xor .u32) (.int 4294967295) (.var 0)) (.bi .pair (.var 5) txPa64))
abbrev txPa89 : E := (.bi .pair (.var 2) (.bi .pair (.var 3) txPa80))
abbrev txPa90 : E := (.bi (.iop .xor .u32) (.bi (.iop .shr .u32) (.var 1) (.int 8)) (.bi .sel (.lits crcT) txPa68))
abbrev txPa91 : E := (.bi (.iop .or .u32) (.bi (.iop .shl .u32) txPa8 (.int 15)) (.bi (.iop .shr .u32) txPa8 (.int 17)))
abbrev txPa92 : E := (.bi (.iop .or .u32) (.bi (.iop .shl .u32) txPa8 (.int 13)) (.bi (.iop .shr .u32) txPa8 (.int 19)))
abbrev txPa93 : E := (.bi (.iop .or .u32) (.bi (.iop .shl .u32) txPa10 (.int 25)) (.bi (.iop .shr .u32) txPa10 (.int 7)))
abbrev txPa94 : E := (.bi (.iop .or .u32) (.bi (.iop .shl .u32) txPa10 (.int 14)) (.bi (.iop .shr .u32) txPa10 (.int 18)))
abbrev txPa95 : E := (.bi .app (.un .one (.un (.wrap .u8) txPa86)) (.lits []))
abbrev txPa96 : E := (.bi .pair (.var 0) (.bi .pair (.var 1) txPa89))
abbrev txPa97 : E := (.bi (.iop .xor .u32) (.int 4294967295) (.fn 41 txPa88))
abbrev txPa98 : E := (.bi (.iop .or .u32) (.bi (.iop .or .u32) txPa14 txPa15) txPa12)
abbrev txPa99 : E := (.bi (.iop .or .u32) (.bi (.iop .or .u32) txPa16 txPa17) txPa13)
abbrev txPa100 : E := (.bi (.iop .or .u32) (.bi (.iop .or .u32) txPa18 txPa19) txPa20)
abbrev txPa101 : E := (.bi (.iop .or .u32) (.bi (.iop .or .u32) txPa34 txPa35) txPa21)
abbrev txPa102 : E := (.bi (.iop .or .u32) (.bi (.iop .or .u32) txPa36 txPa37) txPa22)
abbrev txPa103 : E := (.bi (.iop .or .u32) (.bi (.iop .or .u32) txPa38 txPa39) txPa23)
abbrev txPa104 : E := (.bi (.iop .or .u32) (.bi (.iop .or .u32) txPa40 txPa41) txPa24)
abbrev txPa105 : E := (.bi (.iop .or .u32) (.bi (.iop .or .u32) txPa42 txPa43) txPa25)
abbrev txPa106 : E := (.bi (.iop .or .u32) (.bi (.iop .or .u32) txPa44 txPa45) txPa26)
abbrev txPa107 : E := (.bi (.iop .or .u32) (.bi (.iop .or .u32) txPa46 txPa47) txPa27)
abbrev txPa108 : E := (.bi (.iop .or .u32) (.bi (.iop .or .u32) txPa48 txPa49) txPa28)
abbrev txPa109 : E := (.bi (.iop .or .u32) (.bi (.iop .or .u32) txPa50 txPa51) txPa29)
abbrev txPa110 : E := (.bi (.iop .or .u32) (.bi (.iop .or .u32) txPa52 txPa53) txPa30)
abbrev txPa111 : E := (.bi (.iop .or .u32) (.bi (.iop .or .u32) txPa54 txPa55) txPa31)
abbrev txPa112 : E := (.bi (.iop .or .u32) (.bi (.iop .or .u32) txPa56 txPa57) txPa32)
abbrev txPa113 : E := (.bi (.iop .or .u32) (.bi (.iop .or .u32) txPa58 txPa59) txPa33)
abbrev txPa114 : E := (.bi (.iop .or .u32) txPa98 (.bi .sel (.var 2) (.int 3)))
abbrev txPa115 : E := (.bi (.iop .or .u32) txPa99 (.bi .sel (.var 2) (.int 7)))
abbrev txPa116 : E := (.bi (.iop .or .u32) txPa100 (.bi .sel (.var 2) (.int 11)))
abbrev txPa117 : E := (.bi (.iop .or .u32) txPa101 (.bi .sel (.var 2) (.int 15)))
abbrev txPa118 : E := (.bi (.iop .or .u32) txPa102 (.bi .sel (.var 2) (.int 19)))
abbrev txPa119 : E := (.bi (.iop .or .u32) txPa103 (.bi .sel (.var 2) (.int 23)))
abbrev txPa120 : E := (.bi (.iop .or .u32) txPa104 (.bi .sel (.var 2) (.int 27)))
abbrev txPa121 : E := (.bi (.iop .or .u32) txPa105 (.bi .sel (.var 2) (.int 31)))
abbrev txPa122 : E := (.bi (.iop .or .u32) txPa106 (.bi .sel (.var 2) (.int 35)))
abbrev txPa123 : E := (.bi (.iop .or .u32) txPa107 (.bi .sel (.var 2) (.int 39)))
abbrev txPa124 : E := (.bi (.iop .or .u32) txPa108 (.bi .sel (.var 2) (.int 43)))
abbrev txPa125 : E := (.bi (.iop .or .u32) txPa109 (.bi .sel (.var 2) (.int 47)))
abbrev txPa126 : E := (.bi (.iop .or .u32) txPa110 (.bi .sel (.var 2) (.int 51)))
abbrev txPa127 : E := (.bi (.iop .or .u32) txPa111 (.bi .sel (.var 2) (.int 55)))
abbrev txPa128 : E := (.bi (.iop .or .u32) txPa112 (.bi .sel (.var 2) (.int 59)))
abbrev txPa129 : E := (.bi (.iop .or .u32) txPa113 (.bi .sel (.var 2) (.int 63)))
abbrev txPa130 : E := (.bi .pair txPa90 (.bi .pair (.var 2) txPa76))
abbrev txPa131 : E := (.bi (.iop .xor .u32) (.bi (.iop .xor .u32) txPa69 txPa73) txPa70)
abbrev txPa132 : E := (.bi (.iop .xor .u32) (.bi (.iop .xor .u32) txPa71 txPa74) txPa75)
abbrev txPa133 : E := (.bi .app (.un .one (.un (.wrap .u8) txPa85)) txPa95)
abbrev txPa134 : E := (.bi .app (.un .one txPa129) (.lits [0, 0, 0, 0, 0, 0, 0, 0, 0, 0, 0, 0, 0, 0, 0, 0, 0, 0, 0, 0, 0, 0, 0, 0, 0, 0, 0, 0, 0, 0, 0, 0, 0, 0, 0, 0, 0, 0, 0, 0, 0, 0, 0, 0, 0, 0, 0, 0]))
abbrev txPa135 : E := (.bi (.iop .xor .u32) (.bi (.iop .xor .u32) txPa91 txPa92) (.bi (.iop .shr .u32) txPa8 (.int 10)))
abbrev txPa136 : E := (.bi (.iop .xor .u32) (.bi (.iop .xor .u32) txPa93 txPa94) (.bi (.iop .shr .u32) txPa10 (.int 3)))
abbrev txPa137 : E := (.bi (.iop .add .u32) (.bi (.iop .add .u32) (.var 8) txPa131) txPa82)
abbrev txPa138 : E := (.bi .app (.un .one (.un (.wrap .u8) txPa84)) txPa133)
abbrev txPa139 : E := (.bi (.iop .add .u32) (.bi (.iop .add .u32) txPa9 txPa136) txPa7)
abbrev txPa140 : E := (.bi .sel (.lits [1116352408, 1899447441, 3049323471, 3921009573, 961987163, 1508970993, 2453635748, 2870763221, 3624381080, 310598401, 607225278, 1426881987, 1925078388, 2162078206, 2614888103, 3248222580, 3835390401, 4022224774, 264347078, 604807628, 770255983, 1249150122, 1555081692, 1996064986, 2554220882, 2821834349, 2952996808, 3210313671, 3336571891, 3584528711, 113926993, 338241895, 666307205, 773529912, 1294757372, 1396182291, 1695183700, 1986661051, 2177026350, 2456956037, 2730485921, 2820302411, 3259730800, 3345764771, 3516065817, 3600352804, 4094571909, 275423344, 430227734, 506948616, 659060556, 883997877, 958139571, 1322822218, 1537002063, 1747873779, 1955562222, 2024104815, 2227730452, 2361852424, 2428436474, 2756734187, 3204031479, 3329325298]) (.var 0))
abbrev txPa141 : E := (.bi .app txPa83 (.bi .app (.un .one txPa81) txPa138))
abbrev txPa142 : E := (.bi .app (.un .one txPa127) (.bi .app (.un .one txPa128) txPa134))
abbrev txPa143 : E := (.tr .upd (.var 1) (.var 0) (.bi (.iop .add .u32) txPa139 txPa135))
abbrev txPa144 : E := (.bi (.iop .add .u32) (.bi (.iop .add .u32) txPa137 txPa140) (.bi .sel (.var 9) (.var 0)))
abbrev zPa15 : E := (.bi (.iop .add .u32) (.var 4) txPa144)
abbrev txPa145 : E := (.bi .pair zPa15 txPa66)
abbrev txPa146 : E := (.bi .pair (.var 2) (.bi .pair (.var 3) txPa145))
abbrev txPa147 : E := (.bi .app (.un .one txPa125) (.bi .app (.un .one txPa126) txPa142))
abbrev txPa148 : E := (.bi (.iop .add .u32) txPa144 (.bi (.iop .add .u32) txPa132 txPa87))
abbrev txPa149 : E := (.bi .app (.un .one txPa123) (.bi .app (.un .one txPa124) txPa147))
abbrev txPa150 : E := (.bi .app (.un .one txPa121) (.bi .app (.un .one txPa122) txPa149))
abbrev txPa151 : E := (.bi .app (.un .one txPa119) (.bi .app (.un .one txPa120) txPa150))
abbrev txPa152 : E := (.bi .pair txPa148 (.bi .pair (.var 1) txPa146))
abbrev txPa153 : E := (.bi .pair zPa2 txPa152)
abbrev txPa154 : E := (.bi .app (.un .one txPa117) (.bi .app (.un .one txPa118) txPa151))
abbrev txPa155 : E := (.bi .app (.un .one txPa115) (.bi .app (.un .one txPa116) txPa154))
abbrev txPa156 : E := (.bi .pair (.bi .app (.un .one txPa114) txPa155) (.int 0))
abbrev txPa157 : E := (.tr .seg (.fn 1 (.bi .pair (.int 16) txPa156)) (.int 0) (.int 64))
abbrev txPa158 : E := (.bi .pair (.bi .sel (.var 1) (.int 7)) (.bi .pair txPa157 (.int 0)))
abbrev txPa159 : E := (.bi .pair (.bi .sel (.var 1) (.int 6)) txPa158)
abbrev txPa160 : E := (.bi .pair (.bi .sel (.var 1) (.int 5)) txPa159)
abbrev txPa161 : E := (.bi .pair (.bi .sel (.var 1) (.int 4)) txPa160)
abbrev txPa162 : E := (.bi .pair (.bi .sel (.var 1) (.int 3)) txPa161)
abbrev txPa163 : E := (.bi .pair (.bi .sel (.var 1) (.int 2)) txPa162)
abbrev txPa164 : E := (.bi .pair (.bi .sel (.var 1) (.int 1)) txPa163)
abbrev txPa165 : E := (.bi .pair (.bi .sel (.var 1) (.int 0)) txPa164)
abbrev zPa27 : E := (.bi .pair (.var 0) (.int 0))
abbrev zPa0 : E := (.fn 8 zPa27)
abbrev zPa3 : E := (.fn 3 (argsE [.var 1, .var 2]))
abbrev zPa5 : E := (.bi .pair (.int 0) txPa165)
abbrev zPa7 : Nat × RW := (5, .seq ⟨5, .u8, .bi .add (.var 2) (.int 4), .fn 48 (argsE [.var 5, .var 1, .bi .add (.var 1) (.var 2)]), true, false⟩)
abbrev zPa8 : Duty := (true, txPa78, (.fn 17 zPa27))
abbrev zPa14 : Nat × RW := (3, .eseq ⟨.u8, .var 4, .var 5⟩)
abbrev zPa16 : E := (.bi .sel (.var 0) (.int 0))
abbrev zPa17 : E := (.bi .sel (.var 0) (.int 1))
abbrev zPa18 : E := (.bi .sel (.var 0) (.int 2))
abbrev zPa19 : E := (.bi .sel (.var 0) (.int 3))
abbrev zPa20 : E := (.bi .sel (.var 0) (.int 4))
abbrev zPa21 : E := (.bi .sel (.var 0) (.int 5))
abbrev zPa22 : E := (.bi .sel (.var 0) (.int 6))
abbrev zPa23 : E := (.bi .sel (.var 0) (.int 7))
abbrev zPa25 : E := (.fn 42 (argsE [.var 0, .var 5, .var 1, .bi .add (.var 1) (.var 2)]))
abbrev zPa26 : E := (.fn 1 (.bi .pair (.var 0) (.bi .pair (.var 1) (.int 0))))
abbrev zPa29 : Nat × RW := (1, .seq ⟨88, .u32, .int 256, .lits crcT, false, false⟩)
abbrev zPa30 : Duty := (true, txPa97, (.fn 42 (.bi .pair (.var 0) txPa65)))
def addedL : List Int := [1116352408, 1899447441, 3049323471, 3921009573, 961987163, 1508970993, 2453635748, 2870763221, 3624381080, 310598401, 607225278, 1426881987, 1925078388, 2162078206, 2614888103, 3248222580, 3835390401, 4022224774, 264347078, 604807628, 770255983, 1249150122, 1555081692, 1996064986, 2554220882, 2821834349, 2952996808, 3210313671, 3336571891, 3584528711, 113926993, 338241895, 666307205, 773529912, 1294757372, 1396182291, 1695183700, 1986661051, 2177026350, 2456956037, 2730485921, 2820302411, 3259730800, 3345764771, 3516065817, 3600352804, 4094571909, 275423344, 430227734, 506948616, 659060556, 883997877, 958139571, 1322822218, 1537002063, 1747873779, 1955562222, 2024104815, 2227730452, 2361852424, 2428436474, 2756734187, 3204031479, 3329325298]
def cellsG : List AV := addedL.map (.int .u32)
def rotI (n m x : Int) : Int := iopI .or .u32 (iopI .shl .u32 x m) (iopI .shr .u32 x n)
def xorI (x y : Int) : Int := iopI .xor .u32 x y
def addI (x y : Int) : Int := iopI .add .u32 x y
def andI (x y : Int) : Int := iopI .and .u32 x y
def getI (l : List Int) (i : Int) : Int := (l[i.toNat]?).getD 0
def spW (w : List Int) (i : Int) : Int :=
 addI (addI (addI (getI w (i + -16)) (xorI (xorI (rotI 7 25 (getI w (i + -15))) (rotI 18 14 (getI w (i + -15)))) (iopI .shr .u32 (getI w (i + -15)) 3))) (getI w (i + -7)))
  (xorI (xorI (rotI 17 15 (getI w (i + -2))) (rotI 19 13 (getI w (i + -2)))) (iopI .shr .u32 (getI w (i + -2)) 10))
def spr : Nat → Int → List Int → List Int
 | 0, _, w => w
 | r + 1, i, w => spr r (i + 1) (w.set i.toNat (spW w i))
structure S8 where
 a : Int
 b : Int
 c : Int
 d : Int
 e : Int
 f : Int
 g : Int
 h : Int
def S8.at (s : S8) (j : Int) : Int := match j with
 | 0 => s.a
 | 1 => s.b
 | 2 => s.c
 | 3 => s.d
 | 4 => s.e
 | 5 => s.f
 | 6 => s.g
 | _ => s.h
def tI (s : S8) (k w : Int) : Int := addI (addI (addI (addI s.h (xorI (xorI (rotI 6 26 s.e) (rotI 11 21 s.e)) (rotI 25 7 s.e))) (xorI (andI s.e s.f) (andI (xorI 4294967295 s.e) s.g))) k) w
def uI (s : S8) : Int := addI (xorI (xorI (rotI 2 30 s.a) (rotI 13 19 s.a)) (rotI 22 10 s.a)) (xorI (xorI (andI s.a s.b) (andI s.a s.c)) (andI s.b s.c))
def mixS (w : List Int) (i : Int) (s : S8) : S8 := ⟨addI (tI s (getI addedL i) (getI w i)) (uI s), s.a, s.b, s.c, addI s.d (tI s (getI addedL i) (getI w i)), s.e, s.f, s.g⟩
def mixN (w : List Int) : Nat → Int → S8 → S8
 | 0, _, s => s
 | r + 1, i, s => mixN w r (i + 1) (mixS w i s)
def orI (x y : Int) : Int := iopI .or .u32 x y
def wordI (b : List Int) (j : Int) : Int := orI (orI (orI (iopI .shl .u32 (getI b j) 24) (iopI .shl .u32 (getI b (j + 1)) 16)) (iopI .shl .u32 (getI b (j + 2)) 8)) (getI b (j + 3))
def wordsI (b : List Int) : List Int := [wordI b 0, wordI b 4, wordI b 8, wordI b 12, wordI b 16, wordI b 20, wordI b 24, wordI b 28, wordI b 32, wordI b 36, wordI b 40, wordI b 44, wordI b 48, wordI b 52, wordI b 56, wordI b 60] ++ List.replicate 48 0
def mixedI (s : S8) (b : List Int) : S8 :=
 let m := mixN (spr 48 16 (wordsI b)) 64 0 s
 ⟨addI s.a m.a, addI s.b m.b, addI s.c m.c, addI s.d m.d, addI s.e m.e, addI s.f m.f, addI s.g m.g, addI s.h m.h⟩
def s8L (l : List Int) : S8 := ⟨getI l 0, getI l 1, getI l 2, getI l 3, getI l 4, getI l 5, getI l 6, getI l 7⟩
def S8.list (s : S8) : List Int := [s.a, s.b, s.c, s.d, s.e, s.f, s.g, s.h]
def s8D (a : D) (k : Nat) : S8 := ⟨(argD a k).toInt, (argD a (k + 1)).toInt, (argD a (k + 2)).toInt, (argD a (k + 3)).toInt, (argD a (k + 4)).toInt, (argD a (k + 5)).toInt, (argD a (k + 6)).toInt, (argD a (k + 7)).toInt⟩
def mix3 (s b : List Int) : List Int := (mixedI (s8L s) b).list
structure TK where
 s : List Int
 b : List Int
 z : Int
def tkRoom (k : TK) (r : List Int) : Nat := min (64 - (k.z % 64).toNat) r.length
def tkBlock (k : TK) (r : List Int) : List Int := k.b.take (k.z % 64).toNat ++ r.take (tkRoom k r) ++ k.b.drop ((k.z % 64).toNat + tkRoom k r)
def tkStep (k : TK) (r : List Int) : TK := ⟨if (k.z + (tkRoom k r : Nat)) % 64 = 0 then mix3 k.s (tkBlock k r) else k.s, tkBlock k r, k.z + (tkRoom k r : Nat)⟩
def takeN : Nat → TK → List Int → TK
 | 0, k, _ => k
 | f + 1, k, r => if r.length = 0 then k else takeN f (tkStep k r) (r.drop (tkRoom k r))
def takeI (k : TK) (r : List Int) : TK := takeN r.length k r
def tkD (a : D) (i : Nat) : TK := ⟨(argD a i).ints, (argD a (i + 1)).ints, (argD a (i + 2)).toInt⟩
def tkR (a : D) (i : Nat) : List Int := prt (argD a i).ints (argD a (i + 1)).toInt ((argD a (i + 1)).toInt + (argD a (i + 2)).toInt)
def markI (i : Int) : Int := 160 + i % 90
def lentI (l : List Int) : List Int := l ++ [markI l.length, markI (l.length + 1), markI (l.length + 2)]
def byteI (n : Int) (k : Int) : Int := IntKind.u8.wrap (iopI .shr .u64 n k)
def fillI (z : Int) : List Int := [128] ++ List.replicate ((119 - z % 64) % 64).toNat 0 ++ [56, 48, 40, 32, 24, 16, 8, 0].map (byteI (z * 8))
def outI (s : List Int) : List Int := (List.range 32).map fun i => IntKind.u8.wrap (iopI .shr .u32 (getI s (i / 4 : Nat)) (8 * (3 - (i % 4 : Nat)) : Int))
def sumI (k : TK) : List Int := outI (takeI k (fillI k.z)).s
def firstL : List Int := [0x6a09e667, 0xbb67ae85, 0x3c6ef372, 0xa54ff53a, 0x510e527f, 0x9b05688c, 0x1f83d9ab, 0x5be0cd19]
def zeroK : TK := ⟨firstL, List.replicate 64 0, 0⟩
def blkN : Nat → List Int → List Int → List Int
 | 0, s, _ => s
 | f + 1, s, r => if r.length = 0 then s else blkN f (mix3 s (r.take 64)) (r.drop 64)
def blkI (s r : List Int) : List Int := blkN r.length s r
def absI (c : Int) : Int := if iopI .rem .i64 c 130 < 0 then -(iopI .rem .i64 c 130) else iopI .rem .i64 c 130
def cutN (L : Int) : List Int → Int → Int
 | [], p => p
 | c :: l, p => cutN L l (if p + absI c ≤ L then p + absI c else L)
def lensI : List D → Int
 | [] => 0
 | x :: l => (x.toList.length : Int) + lensI l
def catI : List D → List Int
 | [] => []
 | x :: l => x.ints ++ catI l

def stepI (n c : Int) : Int := iopI .xor .u32 (iopI .shr .u32 n 8) ((crcT[(iopI .xor .u8 (IntKind.u8.wrap n) c).toNat]?).getD 0)
def moreI (n : Int) (l : List Int) : Int := l.foldl stepI n
def notI (n : Int) : Int := iopI .xor .u32 4294967295 n
def bitI (n c k : Int) : Int := if iopI .rem .u32 n 2 = iopI .rem .u32 (iopI .shr .u8 c k) 2 then iopI .shr .u32 n 1 else iopI .xor .u32 (iopI .shr .u32 n 1) 3988292384
def bitsI (c : Int) : Nat → Int → Int → Int
 | 0, _, n => n
 | r + 1, k, n => bitsI c r (k + 1) (bitI n c k)
def refI (n : Int) (l : List Int) : Int := l.foldl (fun n c => bitsI c 8 0 n) n
def flipB (fr i : Int) (l : List Int) : List Int := l.set (iopI .quo .i64 (fr + i) 8).toNat (iopI .xor .u8 ((l[(iopI .quo .i64 (fr + i) 8).toNat]?).getD 0) (iopI .shl .u8 1 (iopI .rem .i64 (fr + i) 8)))
def flipI (fr m : Int) : Nat → Int → List Int → List Int
 | 0, _, l => l
 | r + 1, i, l => flipI fr m r (i + 1) (if iopI .rem .u32 (iopI .shr .u32 m i) 2 = 1 then flipB fr i l else l)
def le4 (n : Int) : List Int := [IntKind.u8.wrap n, IntKind.u8.wrap (iopI .shr .u32 n 8), IntKind.u8.wrap (iopI .shr .u32 n 16), IntKind.u8.wrap (iopI .shr .u32 n 24)]
def gsumI (l : List Int) : Int := notI (moreI (notI 0) l)
def rsumI (l : List Int) : Int := notI (refI 4294967295 l)
def putI (l : List Int) : List Int := l ++ le4 (gsumI l)
def rputI (l : List Int) : List Int := l ++ le4 (rsumI l)
def goodI (l : List Int) : Int := if l = putI (prt l 0 (l.length - 4)) then 1 else 0

def idI (x : List Int) : List Int := (sumI (takeI zeroK x)).take 16
def headL (n : Int) : List Int := [n / 256, n % 256, 255 - n / 256, 255 - n % 256]
def headI (n : Int) : List Int := headL n ++ [IntKind.u8.wrap (gsumI (headL n)), IntKind.u8.wrap (iopI .shr .u32 (gsumI (headL n)) 8)]
def recI (x : List Int) : List Int := headI x.length ++ putI (idI x ++ x)
def saysI (x : List Int) : Int := (x[0]?).getD 0 * 256 + (x[1]?).getD 0
def sizeI (x : List Int) : Int := if 6 ≤ x.length ∧ 1 ≤ saysI x ∧ saysI x ≤ 1024 ∧ x.take 6 = headI (saysI x) then saysI x else 0
def bodyI (y : List Int) : Int := if goodI y = 1 ∧ idI (prt y 16 (y.length - 4)) = prt y 0 16 then 1 else 0
structure SC where
 l : List D
 size : Int
 bad : Int
 rest : Int
def heldD (x : List Int) (p n : Int) : D := .list [D.ofInts (prt x (p + 6) (p + 22)), .int p, .int n]
def scanN : Nat → List Int → Int → SC
 | 0, _, p => ⟨[], p, 0, 0⟩
 | f + 1, x, p => if (x.length : Int) ≤ p then ⟨[], p, 0, 0⟩ else if (x.length : Int) - p < 6 then ⟨[], p, 0, 1⟩ else if sizeI (x.drop p.toNat) = 0 then ⟨[], p, 0, 2⟩ else if (x.length : Int) - p < sizeI (x.drop p.toNat) + 26 then ⟨[], p, 0, 3⟩ else
  if bodyI (prt x (p + 6) (p + sizeI (x.drop p.toNat) + 26)) = 1 then ⟨heldD x p (sizeI (x.drop p.toNat)) :: (scanN f x (p + sizeI (x.drop p.toNat) + 26)).l, (scanN f x (p + sizeI (x.drop p.toNat) + 26)).size, (scanN f x (p + sizeI (x.drop p.toNat) + 26)).bad, (scanN f x (p + sizeI (x.drop p.toNat) + 26)).rest⟩
  else ⟨(scanN f x (p + sizeI (x.drop p.toNat) + 26)).l, (scanN f x (p + sizeI (x.drop p.toNat) + 26)).size, (scanN f x (p + sizeI (x.drop p.toNat) + 26)).bad + 1, (scanN f x (p + sizeI (x.drop p.toNat) + 26)).rest⟩
def scanI (x : List Int) (p : Int) : SC := scanN (x.length + 1) x p
def askI (x : List Int) (p n : Int) (id : List Int) : Int := if p < 0 ∨ (x.length : Int) < p then 6 else if sizeI (x.drop p.toNat) = 0 ∨ sizeI (x.drop p.toNat) ≠ n ∨ (x.length : Int) - p < n + 26 then 6 else if bodyI (prt x (p + 6) (p + n + 26)) = 1 ∧ prt x (p + 6) (p + 22) = id then 0 else 11
def atI (h : D) : Int := ((h.toList[1]?).getD (D.int 0)).toInt
def szI (h : D) : Int := ((h.toList[2]?).getD (D.int 0)).toInt
def endH (l : List D) (i : Int) : Int := if i ≤ 0 then 0 else atI ((l[(i - 1).toNat]?).getD (D.int 0)) + (if szI ((l[(i - 1).toNat]?).getD (D.int 0)) < 1 ∨ 1024 < szI ((l[(i - 1).toNat]?).getD (D.int 0)) then 0 else szI ((l[(i - 1).toNat]?).getD (D.int 0)) + 26)
def restI (n : Int) : Int := if n = 3 then 1 else n
def recsI : List D → List Int
 | [] => []
 | x :: l => recI x.ints ++ recsI l
def endsI (p : Int) : List D → List Int
 | [] => []
 | x :: l => (p + (x.toList.length + 26)) :: endsI (p + (x.toList.length + 26)) l
def heldsI (p : Int) : List D → List D
 | [] => []
 | x :: l => .list [D.ofInts (idI x.ints), .int p, .int x.toList.length] :: heldsI (p + (x.toList.length + 26)) l
def fitI (l : List D) : Int := if l.all fun x => decide (1 ≤ x.toList.length ∧ x.toList.length ≤ 1024) then 1 else 0
def wholeN (c : Int) : List Int → Int → Int → Int × Int
 | [], k, e => (k, e)
 | x :: l, k, e => if x ≤ c then wholeN c l (k + 1) x else (k, e)
def L1 (n : Nat) : Nat := Nat.xor (n / 2) (n % 2 * 3988292384)
def L8 (n : Nat) : Nat := L1 (L1 (L1 (L1 (L1 (L1 (L1 (L1 n)))))))
def moreN : List Int → Nat → Nat
 | [], n => n
 | c :: l, n => moreN l (L8 (Nat.xor n c.toNat))
def moreF (n : Int) (l : List Int) : Int := match decide (0 ≤ n ∧ n ≤ 4294967295) && l.all fun c => decide (0 ≤ c ∧ c ≤ 255) with
 | true => (moreN l n.toNat : Nat)
 | false => moreI n l
def F : Nat → D → D
 | 1 => fun a => D.ofInts (spr (64 - (argD a 0).toInt).toNat (argD a 0).toInt (argD a 1).ints)
 | 2 => fun a => .int ((mixN (argD a 10).ints (64 - (argD a 1).toInt).toNat (argD a 1).toInt (s8D a 2)).at (argD a 0).toInt)
 | 3 => fun a => D.ofInts (mixedI (s8L (argD a 0).ints) (argD a 1).ints).list
 | 4 => fun a => D.ofInts (takeI (tkD a 0) (tkR a 3)).s
 | 5 => fun a => D.ofInts (takeI (tkD a 0) (tkR a 3)).b
 | 6 => fun a => D.ofInts (lentI (prt (argD a 0).ints (argD a 1).toInt (argD a 2).toInt))
 | 7 => fun a => D.ofInts (fillI (argD a 0).toInt)
 | 8 => fun a => D.ofInts (outI (argD a 0).ints)
 | 9 => fun a => D.ofInts (sumI (tkD a 0))
 | 10 => fun a => D.ofInts (sumI (takeI zeroK (tkR a 0)))
 | 17 => fun a => .int ((119 - (argD a 0).toInt % 64) % 64 + 9)
 | 11 => fun _ => D.ofInts firstL
 | 12 => fun _ => D.ofInts (List.replicate 64 0)
 | 13 => fun a => .int (cutN (argD a 4).toInt (prt (argD a 2).ints (argD a 0).toInt (argD a 3).toInt) (argD a 1).toInt)
 | 14 => fun a => D.ofInts (spr 48 16 (wordsI (prt (argD a 0).ints (argD a 1).toInt ((argD a 1).toInt + 64))))
 | 15 => fun a => D.ofInts (mix3 (argD a 0).ints (prt (argD a 1).ints (argD a 2).toInt ((argD a 2).toInt + 64)))
 | 16 => fun a => D.ofInts ((argD a 1).ints ++ List.replicate ((56 - (argD a 0).toInt) % 64).toNat 0)
 | 18 => fun a => .int ((56 - (argD a 0).toInt) % 64)
 | 19 => fun a => D.ofInts (prt (argD a 0).ints (argD a 1).toInt ((argD a 1).toInt + (argD a 2).toInt) ++ fillI (argD a 2).toInt)
 | 20 => fun a => D.ofInts (blkI (argD a 0).ints (prt (argD a 1).ints (argD a 2).toInt (argD a 3).toInt))
 | 30 => fun a => .int (lensI (((argD a 0).toList.take 21).drop (argD a 1).toInt.toNat))
 | 31 => fun a => D.ofInts (catI ((argD a 0).toList.take (argD a 1).toInt.toNat))
 | 41 => fun a => .int (moreI (argD a 0).toInt (prt (argD a 1).ints (argD a 2).toInt (argD a 3).toInt))
 | 42 => fun a => .int (notI (moreI (notI (argD a 0).toInt) (prt (argD a 1).ints (argD a 2).toInt (argD a 3).toInt)))
 | 43 => fun a => .int (bitsI (argD a 2).toInt (8 - (argD a 0).toInt).toNat (argD a 0).toInt (argD a 1).toInt)
 | 45 => fun a => .int (notI (refI 4294967295 (prt (argD a 0).ints (argD a 1).toInt (argD a 2).toInt)))
 | 46 => fun a => D.ofInts (lentI (prt (argD a 0).ints (argD a 1).toInt (argD a 2).toInt))
 | 47 => fun a => .int ((argD a 0).toInt % (argD a 1).toInt)
 | 48 => fun a => D.ofInts (putI (prt (argD a 0).ints (argD a 1).toInt (argD a 2).toInt))
 | 49 => fun a => D.ofInts (rputI (prt (argD a 0).ints (argD a 1).toInt (argD a 2).toInt))
 | 50 => fun a => D.ofInts (flipI (argD a 1).toInt (argD a 2).toInt (32 - (argD a 3).toInt).toNat (argD a 3).toInt (argD a 0).ints)
 | 44 => fun a => .int (refI (argD a 0).toInt (prt (argD a 1).ints (argD a 2).toInt (argD a 3).toInt))
 | 54 => fun a => .int (goodI (prt (argD a 0).ints (argD a 1).toInt (argD a 2).toInt))
 | 60 => fun a => D.ofInts (headI (argD a 0).toInt)
 | 61 => fun a => D.ofInts (idI (prt (argD a 0).ints (argD a 1).toInt ((argD a 1).toInt + (argD a 2).toInt)))
 | 62 => fun a => D.ofInts (recI (prt (argD a 0).ints (argD a 1).toInt ((argD a 1).toInt + (argD a 2).toInt)))
 | 63 => fun a => .int (sizeI (prt (argD a 0).ints ((argD a 1).toInt + (argD a 3).toInt) ((argD a 1).toInt + (argD a 2).toInt)))
 | 64 => fun a => .int (bodyI (prt (argD a 0).ints (argD a 1).toInt ((argD a 1).toInt + (argD a 2).toInt)))
 | 65 => fun a => .list (scanI (prt (argD a 0).ints (argD a 1).toInt ((argD a 1).toInt + (argD a 2).toInt)) (argD a 3).toInt).l
 | 66 => fun a => .int (scanI (prt (argD a 0).ints (argD a 1).toInt ((argD a 1).toInt + (argD a 2).toInt)) (argD a 3).toInt).size
 | 67 => fun a => .int (scanI (prt (argD a 0).ints (argD a 1).toInt ((argD a 1).toInt + (argD a 2).toInt)) (argD a 3).toInt).bad
 | 68 => fun a => .int (scanI (prt (argD a 0).ints (argD a 1).toInt ((argD a 1).toInt + (argD a 2).toInt)) (argD a 3).toInt).rest
 | 56 => fun a => .int (notI (moreF (notI (argD a 0).toInt) (prt (argD a 1).ints (argD a 2).toInt (argD a 3).toInt)))
 | 79 => fun a => .int (restI (scanI (prt (argD a 0).ints (argD a 1).toInt ((argD a 1).toInt + (argD a 2).toInt)) (argD a 3).toInt).rest)
 | 80 => fun a => .int (endH (argD a 0).toList (argD a 1).toInt)
 | 71 => fun a => D.ofInts (recsI ((argD a 0).toList.drop (argD a 1).toInt.toNat))
 | 72 => fun a => D.ofInts (endsI (argD a 2).toInt ((argD a 0).toList.drop (argD a 1).toInt.toNat))
 | 73 => fun a => .list (heldsI (argD a 2).toInt ((argD a 0).toList.drop (argD a 1).toInt.toNat))
 | 74 => fun a => .int (fitI ((argD a 0).toList.drop (argD a 1).toInt.toNat))
 | 75 => fun a => .int (wholeN (argD a 2).toInt ((argD a 0).ints.drop (argD a 1).toInt.toNat) (argD a 1).toInt (argD a 3).toInt).1
 | 76 => fun a => .int (wholeN (argD a 2).toInt ((argD a 0).ints.drop (argD a 1).toInt.toNat) (argD a 1).toInt (argD a 3).toInt).2
 | 77 => fun a => .int (askI (prt (argD a 0).ints (argD a 1).toInt ((argD a 1).toInt + (argD a 2).toInt)) (argD a 3).toInt (argD a 4).toInt ((argD a 5).ints.take 16))
 | 78 => fun a => .int (lensI ((argD a 0).toList.drop (argD a 1).toInt.toNat) + 26 * ((argD a 0).toList.drop (argD a 1).toInt.toNat).length)
 | _ => fun x => x

theorem F1 (i w : D) : F 1 (.list [i, .list [w, .int 0]]) = D.ofInts (spr (64 - i.toInt).toNat i.toInt w.ints) := rfl
theorem F2 (j i a b c d e f g h w : D) : F 2 (.list [j, (.list [i, (.list [a, (.list [b, (.list [c, (.list [d, (.list [e, (.list [f, (.list [g, (.list [h, (.list [w, (.int 0)])])])])])])])])])])]) = .int ((mixN w.ints (64 - i.toInt).toNat i.toInt ⟨a.toInt, b.toInt, c.toInt, d.toInt, e.toInt, f.toInt, g.toInt, h.toInt⟩).at j.toInt) := rfl
theorem F3 (s w : D) : F 3 (.list [s, .list [w, .int 0]]) = D.ofInts (mixedI (s8L s.ints) w.ints).list := rfl
theorem spr_len : ∀ (r : Nat) (i : Int) (w : List Int), (spr r i w).length = w.length
 | 0, _, _ => rfl
 | r + 1, i, w => by simp only [spr]; rw [spr_len r]; simp
theorem spr_step (i : Int) (w : List Int) (h : i < 64) : spr (64 - i).toNat i w = spr (64 - (i + 1)).toNat (i + 1) (w.set i.toNat (spW w i)) := by
 rw [show (64 - i).toNat = (64 - (i + 1)).toNat + 1 by omega]; rfl
theorem mixN_step (i : Int) (w : List Int) (s : S8) (h : i < 64) : mixN w (64 - i).toNat i s = mixN w (64 - (i + 1)).toNat (i + 1) (mixS w i s) := by
 rw [show (64 - i).toNat = (64 - (i + 1)).toNat + 1 by omega]; rfl

theorem F4 (s b z x o l : D) : F 4 (.list [s, (.list [b, (.list [z, (.list [x, (.list [o, (.list [l, (.int 0)])])])])])]) = D.ofInts (takeI ⟨s.ints, b.ints, z.toInt⟩ (prt x.ints o.toInt (o.toInt + l.toInt))).s := rfl
theorem F5 (s b z x o l : D) : F 5 (.list [s, (.list [b, (.list [z, (.list [x, (.list [o, (.list [l, (.int 0)])])])])])]) = D.ofInts (takeI ⟨s.ints, b.ints, z.toInt⟩ (prt x.ints o.toInt (o.toInt + l.toInt))).b := rfl
theorem F7 (z : D) : F 7 (.list [z, .int 0]) = D.ofInts (fillI z.toInt) := rfl
theorem F8 (s : D) : F 8 (.list [s, .int 0]) = D.ofInts (outI s.ints) := rfl
theorem F9 (s b z : D) : F 9 (.list [s, (.list [b, (.list [z, (.int 0)])])]) = D.ofInts (sumI ⟨s.ints, b.ints, z.toInt⟩) := rfl
theorem F10 (x o l : D) : F 10 (.list [x, (.list [o, (.list [l, (.int 0)])])]) = D.ofInts (sumI (takeI zeroK (prt x.ints o.toInt (o.toInt + l.toInt)))) := rfl
theorem F11 (x : D) : F 11 x = D.ofInts firstL := rfl
theorem F12 (x : D) : F 12 x = D.ofInts (List.replicate 64 0) := rfl
theorem F16 (l x : D) : F 16 (.list [l, (.list [x, (.int 0)])]) = D.ofInts (x.ints ++ List.replicate ((56 - l.toInt) % 64).toNat 0) := rfl
theorem F30 (x i : D) : F 30 (.list [x, .list [i, .int 0]]) = .int (lensI ((x.toList.take 21).drop i.toInt.toNat)) := rfl
theorem F17 (z : D) : F 17 (.list [z, .int 0]) = .int ((119 - z.toInt % 64) % 64 + 9) := rfl
theorem fill_len (z : Int) : ((fillI z).length : Int) = (119 - z % 64) % 64 + 9 := by
 have := emod_in (x := 119 - z % 64) (n := 64) (by omega)
 unfold fillI
 simp
 omega
theorem room_pos {k : TK} {r : List Int} (h : r.length ≠ 0) : 1 ≤ tkRoom k r := by
 unfold tkRoom
 have := Int.emod_lt_of_pos k.z (show (0 : Int) < 64 by omega)
 have := Int.emod_nonneg k.z (show (64 : Int) ≠ 0 by omega)
 omega
theorem room_le (k : TK) (r : List Int) : tkRoom k r ≤ r.length := Nat.min_le_right _ _
theorem takeN_le : ∀ (f g : Nat) (k : TK) (r : List Int), r.length ≤ f → r.length ≤ g → takeN f k r = takeN g k r
 | 0, 0, _, _, _, _ => rfl
 | 0, g + 1, k, r, h, _ => by simp only [takeN]; rw [if_pos (by omega)]
 | f + 1, 0, k, r, _, h => by simp only [takeN]; rw [if_pos (by omega)]
 | f + 1, g + 1, k, r, h1, h2 => by
  simp only [takeN]
  by_cases h : r.length = 0
  ·rw [if_pos h, if_pos h]
  ·rw [if_neg h, if_neg h]
   have := room_pos (k := k) h
   exact takeN_le f g _ _ (by simp; omega) (by simp; omega)
theorem take_step {k : TK} {r : List Int} (h : r.length ≠ 0) : takeI k r = takeI (tkStep k r) (r.drop (tkRoom k r)) := by
 unfold takeI
 have := room_pos (k := k) h
 rw [takeN_le r.length (r.length + 1) k r (Nat.le_refl _) (by omega)]
 simp only [takeN]
 rw [if_neg h]
 exact takeN_le _ _ _ _ (by simp) (Nat.le_refl _)
theorem take_nil {k : TK} {r : List Int} (h : r.length = 0) : takeI k r = k := by
 unfold takeI
 rw [h]; rfl
theorem prt_drop {x : List Int} {o l : Int} {n : Nat} (h0 : 0 ≤ o) (h : (n : Int) ≤ l) : (prt x o (o + l)).drop n = prt x (o + n) (o + n + (l - n)) := by
 unfold prt
 rw [List.drop_drop]
 rw [show o + (n : Int) + (l - n) = o + l by omega, show (o + (n : Int)).toNat = o.toNat + n by omega]
theorem take_one {S B X : List Int} {z o l n : Int} {b' : List Int} (h0 : 0 ≤ o) (hl : ((prt X o (o + l)).length : Int) = l) (hp : 0 < l) (hn : n = if l ≤ 64 - z % 64 then l else 64 - z % 64)
  (hb : b' = B.take (z % 64).toNat ++ (prt X o (o + l)).take n.toNat ++ B.drop ((z % 64).toNat + n.toNat)) :
  takeI ⟨S, B, z⟩ (prt X o (o + l)) = takeI ⟨if (z + n) % 64 = 0 then mix3 S b' else S, b', z + n⟩ (prt X (o + n) (o + n + (l - n))) := by
 have hm := emod_in (x := z) (n := 64) (by omega)
 have hnn : 0 ≤ n ∧ n ≤ l := by rw [hn]; split <;> omega
 have hr : tkRoom ⟨S, B, z⟩ (prt X o (o + l)) = n.toNat := by
  unfold tkRoom
  simp only
  rw [hn]
  split <;> omega
 have hB : tkBlock ⟨S, B, z⟩ (prt X o (o + l)) = b' := by
  unfold tkBlock
  rw [hr, hb]
 rw [take_step (by omega)]
 unfold tkStep
 have e2 := prt_drop (x := X) (o := o) (l := l) (n := n.toNat) h0 (by omega)
 rw [show ((n.toNat : Nat) : Int) = n by omega] at e2
 rw [hB, hr, e2, show ((n.toNat : Nat) : Int) = n by omega]
theorem splice_prt {x y : D} {a n : Nat} {o t : Int} (hn : (prt y.ints o t).length = n) :
  D.ints (.list (x.toList.take a ++ (y.toList.take t.toNat).drop o.toNat ++ x.toList.drop (a + ((y.toList.take t.toNat).drop o.toNat).length))) = x.ints.take a ++ prt y.ints o t ++ x.ints.drop (a + n) := by
 have := ints_splice x (.list ((y.toList.take t.toNat).drop o.toNat)) a
 rw [ints_cut] at this
 rw [← hn]
 exact this
theorem splice_prt2 {x y : D} {a m n : Nat} {o t : Int} (hn : ((prt y.ints o t).take m).length = n) :
  D.ints (.list (x.toList.take a ++ (((y.toList.take t.toNat).drop o.toNat).take m).drop 0 ++ x.toList.drop (a + ((((y.toList.take t.toNat).drop o.toNat).take m).drop 0).length))) = x.ints.take a ++ (prt y.ints o t).take m ++ x.ints.drop (a + n) := by
 have := ints_splice x (.list ((((y.toList.take t.toNat).drop o.toNat).take m).drop 0)) a
 have e3 : D.ints (.list ((((y.toList.take t.toNat).drop o.toNat).take m).drop 0)) = (prt y.ints o t).take m := by
  simp only [ints_list, List.map_drop, List.map_take, map_ints, List.drop_zero]; rfl
 rw [e3] at this
 rw [← hn]
 exact this
theorem fill_front (m : Nat) : ((List.replicate (m + 9) (D.int 0)).set 0 (D.int 128)).take (m + 1) = D.int 128 :: List.replicate m (D.int 0) := by
 rw [show m + 9 = (m + 8) + 1 from rfl, List.replicate_succ]
 simp [List.take_replicate]
theorem take_blen : ∀ (f : Nat) (k : TK) (r : List Int), k.b.length = 64 → (takeN f k r).b.length = 64
 | 0, k, r, h => h
 | f + 1, k, r, h => by
  simp only [takeN]
  split
  ·exact h
  ·refine take_blen f _ _ ?_
   have := Int.emod_lt_of_pos k.z (show (0 : Int) < 64 by omega)
   have := Int.emod_nonneg k.z (show (64 : Int) ≠ 0 by omega)
   have := room_le k r
   have hr : tkRoom k r ≤ 64 - (k.z % 64).toNat := Nat.min_le_left _ _
   simp only [tkStep, tkBlock, List.length_append, List.length_take, List.length_drop]
   omega
theorem take_b {k : TK} {r : List Int} (h : k.b.length = 64) : (takeI k r).b.length = 64 := take_blen _ _ _ h
theorem take_zN : ∀ (f : Nat) (k : TK) (r : List Int), r.length ≤ f → (takeN f k r).z = k.z + r.length
 | 0, k, r, h => by
  have : r.length = 0 := by omega
  simp [takeN, this]
 | f + 1, k, r, h => by
  simp only [takeN]
  split
  ·rename_i h0; simp [h0]
  ·rename_i h0
   have h1 := room_pos (k := k) h0
   have h2 := room_le k r
   rw [take_zN f _ _ (by simp; omega)]
   simp only [tkStep, List.length_drop]
   omega
theorem take_z (k : TK) (r : List Int) : (takeI k r).z = k.z + r.length := take_zN _ _ _ (Nat.le_refl _)
theorem F42 (n x o t : D) : F 42 (.list [n, .list [x, .list [o, .list [t, .int 0]]]]) = .int (notI (moreI (notI n.toInt) (prt x.ints o.toInt t.toInt))) := rfl
theorem F47 (x n : D) : F 47 (.list [x, .list [n, .int 0]]) = .int (x.toInt % n.toInt) := rfl
theorem F48 (x o t : D) : F 48 (.list [x, .list [o, .list [t, .int 0]]]) = D.ofInts (putI (prt x.ints o.toInt t.toInt)) := rfl
theorem F49 (x o t : D) : F 49 (.list [x, .list [o, .list [t, .int 0]]]) = D.ofInts (rputI (prt x.ints o.toInt t.toInt)) := rfl
theorem F41 (n x o t : D) : F 41 (.list [n, .list [x, .list [o, .list [t, .int 0]]]]) = .int (moreI n.toInt (prt x.ints o.toInt t.toInt)) := rfl
theorem F54 (x o t : D) : F 54 (.list [x, .list [o, .list [t, .int 0]]]) = .int (goodI (prt x.ints o.toInt t.toInt)) := rfl
theorem F60 (n : D) : F 60 (.list [n, .int 0]) = D.ofInts (headI n.toInt) := rfl
theorem F61 (x o l : D) : F 61 (.list [x, .list [o, .list [l, .int 0]]]) = D.ofInts (idI (prt x.ints o.toInt (o.toInt + l.toInt))) := rfl
theorem F62 (x o l : D) : F 62 (.list [x, .list [o, .list [l, .int 0]]]) = D.ofInts (recI (prt x.ints o.toInt (o.toInt + l.toInt))) := rfl
theorem F63 (x o l p : D) : F 63 (.list [x, .list [o, .list [l, .list [p, .int 0]]]]) = .int (sizeI (prt x.ints (o.toInt + p.toInt) (o.toInt + l.toInt))) := rfl
theorem F64 (x o l : D) : F 64 (.list [x, .list [o, .list [l, .int 0]]]) = .int (bodyI (prt x.ints o.toInt (o.toInt + l.toInt))) := rfl
theorem F65 (x o l p : D) : F 65 (.list [x, .list [o, .list [l, .list [p, .int 0]]]]) = .list (scanI (prt x.ints o.toInt (o.toInt + l.toInt)) p.toInt).l := rfl
theorem F66 (x o l p : D) : F 66 (.list [x, .list [o, .list [l, .list [p, .int 0]]]]) = .int (scanI (prt x.ints o.toInt (o.toInt + l.toInt)) p.toInt).size := rfl
theorem F67 (x o l p : D) : F 67 (.list [x, .list [o, .list [l, .list [p, .int 0]]]]) = .int (scanI (prt x.ints o.toInt (o.toInt + l.toInt)) p.toInt).bad := rfl
theorem F68 (x o l p : D) : F 68 (.list [x, .list [o, .list [l, .list [p, .int 0]]]]) = .int (scanI (prt x.ints o.toInt (o.toInt + l.toInt)) p.toInt).rest := rfl
theorem F79 (x o l p : D) : F 79 (.list [x, .list [o, .list [l, .list [p, .int 0]]]]) = .int (restI (scanI (prt x.ints o.toInt (o.toInt + l.toInt)) p.toInt).rest) := rfl
theorem F71 (x i : D) : F 71 (.list [x, .list [i, .int 0]]) = D.ofInts (recsI (x.toList.drop i.toInt.toNat)) := rfl
theorem F72 (x i p : D) : F 72 (.list [x, .list [i, .list [p, .int 0]]]) = D.ofInts (endsI p.toInt (x.toList.drop i.toInt.toNat)) := rfl
theorem F73 (x i p : D) : F 73 (.list [x, .list [i, .list [p, .int 0]]]) = .list (heldsI p.toInt (x.toList.drop i.toInt.toNat)) := rfl
theorem F74 (x i : D) : F 74 (.list [x, .list [i, .int 0]]) = .int (fitI (x.toList.drop i.toInt.toNat)) := rfl
theorem F77 (x o l p n q : D) : F 77 (.list [x, .list [o, .list [l, .list [p, .list [n, .list [q, .int 0]]]]]]) = .int (askI (prt x.ints o.toInt (o.toInt + l.toInt)) p.toInt n.toInt (q.ints.take 16)) := rfl
theorem F78 (x i : D) : F 78 (.list [x, .list [i, .int 0]]) = .int (lensI (x.toList.drop i.toInt.toNat) + 26 * (x.toList.drop i.toInt.toNat).length) := rfl

def sprL : LSpec := { n := 86, next := 1, pat := [(6, .sint .i64 (.var 0)), (3, .ptr 1 0)], rows := [(1, .seq ⟨90, .u32, .int 64, .var 1, false, false⟩)], pre := [(.le (.int 16) (.var 0), true), (.le (.var 0) (.int 64), true)], x := 2, fin := [(3, .ptr 1 0)], frows := [(1, .seq ⟨90, .u32, .int 64, .fn 1 (argsE [.var 0, .var 1]), false, false⟩)], same := [1], chg := [3, 6, 7, 8, 9, 10, 42, 43, 44, 45, 46, 47, 48, 49, 50, 51, 52, 53, 54, 55, 56, 57, 58, 59, 60, 61, 62, 63, 64, 65, 66, 67, 68, 69, 70, 71, 72, 73, 74, 75, 76, 77, 78, 79, 80, 81, 82, 83, 84] }
abbrev asPa0 : Q × Bool := ((.le (.int 64) (.var 0)), false)
abbrev asPa1 : Q × Bool := ((.fit .i64 zPa10), true)
abbrev asPa2 : Q × Bool := ((.le (.int 0) zPa10), true)
abbrev asPa3 : Q × Bool := ((.le (.int 64) zPa10), false)
abbrev asPa4 : Q × Bool := ((.fit .i64 zPa12), true)
abbrev asPa5 : Q × Bool := ((.le (.int 0) zPa12), true)
abbrev asPa6 : Q × Bool := ((.le (.int 64) zPa12), false)
abbrev asPa7 : Q × Bool := ((.fit .i64 zPa11), true)
abbrev asPa8 : Q × Bool := ((.le (.int 0) zPa11), true)
abbrev asPa9 : Q × Bool := ((.le (.int 64) zPa11), false)
abbrev asPa10 : Q × Bool := ((.fit .i64 zPa13), true)
abbrev asPa11 : Q × Bool := ((.le (.int 0) zPa13), true)
abbrev asPa12 : Q × Bool := ((.le (.int 64) zPa13), false)
abbrev asPa13 : Q × Bool := ((.le (.int 0) (.var 0)), true)
abbrev asPa14 : Q × Bool := ((.fit .i64 zPa2), true)
def sprL_t0 : List (Q × Bool) := [asPa0, asPa1, asPa2, asPa3, asPa4, asPa5, asPa6, asPa7, asPa8, asPa9, asPa10, asPa11, asPa12, asPa13, asPa14]
def sprL_d0 : List Duty := [(false, (.fn 1 (.bi .pair zPa2 (.bi .pair txPa143 (.int 0)))), zPa26)]
def sprL_h0 : List (Nat × E) := [(1, txPa143), (0, zPa2)]
theorem sprL_h0_a : lookE sprL_h0 0 = zPa2 ∧ lookE sprL_h0 1 = txPa143 := ⟨rfl, rfl⟩
theorem sprL_y0 : nextD sprL sprL_h0 [(1, 1)] (roundC Tryd.prog [] [] [] 3000 40 46 [4, 1, 0, 1, 1, 1] (tellA sprL_t0) sprL) = some sprL_d0 := by kernel_rfl
abbrev asPa15 : Q × Bool := ((.le (.int 64) (.var 0)), true)
def sprL_t1 : List (Q × Bool) := [asPa15]
def sprL_d1 : List Duty := [(false, (.var 1), zPa26)]
theorem sprL_y1 : endD sprL [(1, 1)] 1000 (roundC Tryd.prog [] [] [] 3000 40 46 [4, 1, 0, 1, 1, 1] (tellA sprL_t1) sprL) = some sprL_d1 := by kernel_rfl
theorem sprL_holds : LHolds Tryd.prog (loopAt Tryd.prog 46 [4, 1, 0, 1, 1, 1]) sprL F := by
 refine loop_roundsC sound (tableNil _ _) (specsNil _ _) (oversNil _ _) (fuel := 3000) (depth := 40) (by kernel_rfl) (by kernel_rfl) (by kernel_rfl) (fun d => (64 - (d 0).toInt).toNat) fun d hp hR hA => ?_
 have hp := allTold'_iff.2 hp
 simp only [sprL, tl] at hp hR hA
 by_cases h : 64 ≤ (d 0).toInt
 ·refine ⟨tellA sprL_t1, tellA_ok (allTold'_iff.1 ?_), .inl ⟨_, _, _, sprL_y1, dutiesTold_ok ?_⟩⟩
  ·simp only [sprL_t1, tl]
   omega
  ·simp only [sprL_d1, F1, tl]
   rw [show (64 - (d 0).toInt).toNat = 0 by omega]
   rfl
 ·refine ⟨tellA sprL_t0, tellA_ok (allTold'_iff.1 ?_), .inr ⟨sprL_h0, _, _, sprL_y0, dutiesTold_ok ?_, allTold'_iff.1 ?_, ?_⟩⟩
  ·simp only [sprL_t0, tl]
   omega
  ·simp only [sprL_d0, F1, tl]
   rw [spr_step (d 0).toInt (d 1).ints (by omega)]
   rfl
  ·simp only [sprL, sprL_h0_a, tl]
   omega
  ·simp only [sprL_h0_a, tl]
   omega

def mixL : LSpec := { n := 131, next := 1, pat := [(35, .sint .i64 (.var 0)), (6, .sint .u32 (.var 1)), (7, .sint .u32 (.var 2)), (8, .sint .u32 (.var 3)), (9, .sint .u32 (.var 4)), (10, .sint .u32 (.var 5)), (11, .sint .u32 (.var 6)), (12, .sint .u32 (.var 7)), (13, .sint .u32 (.var 8)), (5, .ptr 1 0)], rows := [(1, .seq ⟨90, .u32, .int 64, .var 9, false, false⟩), (0, .ext cellsG)], pre := [(.le (.int 0) (.var 0), true), (.le (.var 0) (.int 64), true)], x := 0, fin := [(6, .sint .u32 (.fn 2 (argsE [.int 0, .var 0, .var 1, .var 2, .var 3, .var 4, .var 5, .var 6, .var 7, .var 8, .var 9]))), (7, .sint .u32 (.fn 2 (argsE [.int 1, .var 0, .var 1, .var 2, .var 3, .var 4, .var 5, .var 6, .var 7, .var 8, .var 9]))), (8, .sint .u32 (.fn 2 (argsE [.int 2, .var 0, .var 1, .var 2, .var 3, .var 4, .var 5, .var 6, .var 7, .var 8, .var 9]))), (9, .sint .u32 (.fn 2 (argsE [.int 3, .var 0, .var 1, .var 2, .var 3, .var 4, .var 5, .var 6, .var 7, .var 8, .var 9]))), (10, .sint .u32 (.fn 2 (argsE [.int 4, .var 0, .var 1, .var 2, .var 3, .var 4, .var 5, .var 6, .var 7, .var 8, .var 9]))), (11, .sint .u32 (.fn 2 (argsE [.int 5, .var 0, .var 1, .var 2, .var 3, .var 4, .var 5, .var 6, .var 7, .var 8, .var 9]))), (12, .sint .u32 (.fn 2 (argsE [.int 6, .var 0, .var 1, .var 2, .var 3, .var 4, .var 5, .var 6, .var 7, .var 8, .var 9]))), (13, .sint .u32 (.fn 2 (argsE [.int 7, .var 0, .var 1, .var 2, .var 3, .var 4, .var 5, .var 6, .var 7, .var 8, .var 9])))], frows := [], same := [], chg := [5, 6, 7, 8, 9, 10, 11, 12, 13, 14, 15, 16, 35, 36, 37, 38, 39, 40, 41, 42, 43, 44, 45, 46, 47, 48, 49, 50, 51, 52, 53, 54, 55, 56, 57, 58, 59, 60, 61, 62, 63, 64, 65, 66, 67, 68, 69, 70, 71, 72, 73, 74, 75, 76, 77, 78, 79, 80, 81, 82, 83, 84, 85, 86, 87, 88, 89, 90, 91, 92, 93, 94, 95, 96, 97] }
def mixL_t0 : List (Q × Bool) := [asPa0, asPa13, asPa14]
def mixL_d0 : List Duty := [(true, (.fn 2 (.bi .pair (.int 0) txPa153)), (.fn 2 (.bi .pair (.int 0) txPa96))), (true, (.fn 2 (.bi .pair (.int 1) txPa153)), (.fn 2 (.bi .pair (.int 1) txPa96))), (true, (.fn 2 (.bi .pair (.int 2) txPa153)), (.fn 2 (.bi .pair (.int 2) txPa96))), (true, (.fn 2 (.bi .pair (.int 3) txPa153)), (.fn 2 (.bi .pair (.int 3) txPa96))), (true, (.fn 2 (.bi .pair (.int 4) txPa153)), (.fn 2 (.bi .pair (.int 4) txPa96))), (true, (.fn 2 (.bi .pair (.int 5) txPa153)), (.fn 2 (.bi .pair (.int 5) txPa96))), (true, (.fn 2 (.bi .pair (.int 6) txPa153)), (.fn 2 (.bi .pair (.int 6) txPa96))), (true, (.fn 2 (.bi .pair (.int 7) txPa153)), (.fn 2 (.bi .pair (.int 7) txPa96)))]
def mixL_h0 : List (Nat × E) := [(9, (.var 9)), (8, (.var 7)), (7, (.var 6)), (6, (.var 5)), (5, zPa15), (4, (.var 3)), (3, (.var 2)), (2, (.var 1)), (1, txPa148), (0, zPa2)]
theorem mixL_h0_a : lookE mixL_h0 0 = zPa2 ∧ lookE mixL_h0 1 = txPa148 ∧ lookE mixL_h0 2 = (.var 1) ∧ lookE mixL_h0 3 = (.var 2) ∧ lookE mixL_h0 4 = (.var 3) ∧ lookE mixL_h0 5 = zPa15 ∧ lookE mixL_h0 6 = (.var 5) ∧ lookE mixL_h0 7 = (.var 6) ∧ lookE mixL_h0 8 = (.var 7) ∧ lookE mixL_h0 9 = (.var 9) := ⟨rfl, rfl, rfl, rfl, rfl, rfl, rfl, rfl, rfl, rfl⟩
theorem mixL_y0 : nextD mixL mixL_h0 [(1, 1)] (roundC Tryd.prog [⟨46, [4, 1, 0, 1, 1, 1], sprL⟩] [] [] 3000 40 42 [4, 1, 0, 1, 1, 1] (tellA mixL_t0) mixL) = some mixL_d0 := by kernel_rfl
def mixL_t1 : List (Q × Bool) := [asPa15]
def mixL_d1 : List Duty := [(true, (.var 1), (.fn 2 (.bi .pair (.int 0) txPa96))), (true, (.var 2), (.fn 2 (.bi .pair (.int 1) txPa96))), (true, (.var 3), (.fn 2 (.bi .pair (.int 2) txPa96))), (true, (.var 4), (.fn 2 (.bi .pair (.int 3) txPa96))), (true, (.var 5), (.fn 2 (.bi .pair (.int 4) txPa96))), (true, (.var 6), (.fn 2 (.bi .pair (.int 5) txPa96))), (true, (.var 7), (.fn 2 (.bi .pair (.int 6) txPa96))), (true, (.var 8), (.fn 2 (.bi .pair (.int 7) txPa96)))]
theorem mixL_y1 : endD mixL [(1, 1)] 1000 (roundC Tryd.prog [⟨46, [4, 1, 0, 1, 1, 1], sprL⟩] [] [] 3000 40 42 [4, 1, 0, 1, 1, 1] (tellA mixL_t1) mixL) = some mixL_d1 := by kernel_rfl
theorem mixL_holds : LHolds Tryd.prog (loopAt Tryd.prog 42 [4, 1, 0, 1, 1, 1]) mixL F := by
 refine loop_roundsC sound (tableCons sprL_holds (tableNil _ _)) (specsNil _ _) (oversNil _ _) (fuel := 3000) (depth := 40) (by kernel_rfl) (by kernel_rfl) (by kernel_rfl) (fun d => (64 - (d 0).toInt).toNat) fun d hp hR hA => ?_
 have hp := allTold'_iff.2 hp
 simp only [mixL, tl] at hp hR hA
 by_cases h : 64 ≤ (d 0).toInt
 ·refine ⟨tellA mixL_t1, tellA_ok (allTold'_iff.1 ?_), .inl ⟨_, _, _, mixL_y1, dutiesTold_ok ?_⟩⟩
  ·simp only [mixL_t1, tl]
   omega
  ·simp only [mixL_d1, F2, tl]
   rw [show (64 - (d 0).toInt).toNat = 0 by omega]
   and_intros <;> rfl
 ·refine ⟨tellA mixL_t0, tellA_ok (allTold'_iff.1 ?_), .inr ⟨mixL_h0, _, _, mixL_y0, dutiesTold_ok ?_, allTold'_iff.1 ?_, ?_⟩⟩
  ·simp only [mixL_t0, tl]
   omega
  ·simp only [mixL_d0, F2, tl]
   rw [mixN_step (d 0).toInt (d 9).ints _ (by omega)]
   and_intros <;> rfl
  ·simp only [mixL, mixL_h0_a, tl]
   omega
  ·simp only [mixL_h0_a, tl]
   omega

def mixedC : CSpec := { args := [.agg [vu32Pa (.var 1) 0, vu32Pa (.var 1) 1, vu32Pa (.var 1) 2, vu32Pa (.var 1) 3, vu32Pa (.var 1) 4, vu32Pa (.var 1) 5, vu32Pa (.var 1) 6, vu32Pa (.var 1) 7], .agg [vu8Pa (.var 2) 0, vu8Pa (.var 2) 1, vu8Pa (.var 2) 2, vu8Pa (.var 2) 3, vu8Pa (.var 2) 4, vu8Pa (.var 2) 5, vu8Pa (.var 2) 6, vu8Pa (.var 2) 7, vu8Pa (.var 2) 8, vu8Pa (.var 2) 9, vu8Pa (.var 2) 10, vu8Pa (.var 2) 11, vu8Pa (.var 2) 12, vu8Pa (.var 2) 13, vu8Pa (.var 2) 14, vu8Pa (.var 2) 15, vu8Pa (.var 2) 16, vu8Pa (.var 2) 17, vu8Pa (.var 2) 18, vu8Pa (.var 2) 19, vu8Pa (.var 2) 20, vu8Pa (.var 2) 21, vu8Pa (.var 2) 22, vu8Pa (.var 2) 23, vu8Pa (.var 2) 24, vu8Pa (.var 2) 25, vu8Pa (.var 2) 26, vu8Pa (.var 2) 27, vu8Pa (.var 2) 28, vu8Pa (.var 2) 29, vu8Pa (.var 2) 30, vu8Pa (.var 2) 31, vu8Pa (.var 2) 32, vu8Pa (.var 2) 33, vu8Pa (.var 2) 34, vu8Pa (.var 2) 35, vu8Pa (.var 2) 36, vu8Pa (.var 2) 37, vu8Pa (.var 2) 38, vu8Pa (.var 2) 39, vu8Pa (.var 2) 40, vu8Pa (.var 2) 41, vu8Pa (.var 2) 42, vu8Pa (.var 2) 43, vu8Pa (.var 2) 44, vu8Pa (.var 2) 45, vu8Pa (.var 2) 46, vu8Pa (.var 2) 47, vu8Pa (.var 2) 48, vu8Pa (.var 2) 49, vu8Pa (.var 2) 50, vu8Pa (.var 2) 51, vu8Pa (.var 2) 52, vu8Pa (.var 2) 53, vu8Pa (.var 2) 54, vu8Pa (.var 2) 55, vu8Pa (.var 2) 56, vu8Pa (.var 2) 57, vu8Pa (.var 2) 58, vu8Pa (.var 2) 59, vu8Pa (.var 2) 60, vu8Pa (.var 2) 61, vu8Pa (.var 2) 62, vu8Pa (.var 2) 63]], next := 0, rows := [(0, .ext cellsG)], pre := [], res := .agg [.sint .u32 (.bi .sel zPa3 (.int 0)), .sint .u32 (.bi .sel zPa3 (.int 1)), .sint .u32 (.bi .sel zPa3 (.int 2)), .sint .u32 (.bi .sel zPa3 (.int 3)), .sint .u32 (.bi .sel zPa3 (.int 4)), .sint .u32 (.bi .sel zPa3 (.int 5)), .sint .u32 (.bi .sel zPa3 (.int 6)), .sint .u32 (.bi .sel zPa3 (.int 7))], frows := [], same := [] }
def mixedC_t0 : List (Q × Bool) := []
def mixedC_d0 : List Duty := [(true, (.bi (.iop .add .u32) (.bi .sel (.var 1) (.int 0)) (.fn 2 (.bi .pair (.int 0) zPa5))), (.bi .sel (.fn 3 txPa6) (.int 0))), (true, (.bi (.iop .add .u32) (.bi .sel (.var 1) (.int 1)) (.fn 2 (.bi .pair (.int 1) zPa5))), (.bi .sel (.fn 3 txPa6) (.int 1))), (true, (.bi (.iop .add .u32) (.bi .sel (.var 1) (.int 2)) (.fn 2 (.bi .pair (.int 2) zPa5))), (.bi .sel (.fn 3 txPa6) (.int 2))), (true, (.bi (.iop .add .u32) (.bi .sel (.var 1) (.int 3)) (.fn 2 (.bi .pair (.int 3) zPa5))), (.bi .sel (.fn 3 txPa6) (.int 3))), (true, (.bi (.iop .add .u32) (.bi .sel (.var 1) (.int 4)) (.fn 2 (.bi .pair (.int 4) zPa5))), (.bi .sel (.fn 3 txPa6) (.int 4))), (true, (.bi (.iop .add .u32) (.bi .sel (.var 1) (.int 5)) (.fn 2 (.bi .pair (.int 5) zPa5))), (.bi .sel (.fn 3 txPa6) (.int 5))), (true, (.bi (.iop .add .u32) (.bi .sel (.var 1) (.int 6)) (.fn 2 (.bi .pair (.int 6) zPa5))), (.bi .sel (.fn 3 txPa6) (.int 6))), (true, (.bi (.iop .add .u32) (.bi .sel (.var 1) (.int 7)) (.fn 2 (.bi .pair (.int 7) zPa5))), (.bi .sel (.fn 3 txPa6) (.int 7)))]
theorem mixedC_y0 : endC mixedC [] 1000 (callC Tryd.prog (tellA mixedC_t0) [⟨46, [4, 1, 0, 1, 1, 1], sprL⟩, ⟨42, [4, 1, 0, 1, 1, 1], mixL⟩] [] [] 3000 40 42 mixedC) = some mixedC_d0 := by kernel_rfl
theorem mixedC_holds : CHolds Tryd.prog 42 mixedC F := by
 refine cholds_of sound (tableCons sprL_holds (tableCons mixL_holds (tableNil _ _))) (specsNil _ _) (oversNil _ _) (fuel := 3000) (depth := 40) (by kernel_rfl) fun d hp hR hA => ?_
 have hp := allTold'_iff.2 hp
 simp only [mixedC, tl] at hp hR hA
 refine ⟨tellA mixedC_t0, _, _, _, tellA_ok (allTold'_iff.1 ?_), mixedC_y0, dutiesTold_ok ?_⟩
 ·simp only [mixedC_t0, tl]
 ·simp only [mixedC_d0, F1, F2, F3, tl]
  generalize hW : D.ints (D.list (_ ++ _)) = W
  have hW2 : W = wordsI (d 2).ints := by
   rw [← hW]
   simp [wordsI, wordI, orI, getI, ints_list, D.ofInts, Function.comp_def, List.replicate]
  subst hW2
  rw [show ((64 : Int) - 16).toNat = 48 from rfl, show ((64 : Int) - 0).toNat = 64 from rfl, show Int.toNat 0 = 0 from rfl, show Int.toNat 64 = 64 from rfl, segI_all (l := spr 48 16 (wordsI (d 2).ints)) (n := 64) (by rw [spr_len]; rfl)]
  simp only [mixedI, s8L, getI, S8.list, S8.at, addI]
  and_intros <;> rfl

def fillC : CSpec := { args := [.sint .i64 (.var 0)], next := 0, rows := [], pre := [(.le (.int 0) (.var 0), true), (.le (.var 0) (.int 1152921504606846976), true)], res := .sslice 1 (.int 0) (.fn 17 (argsE [.var 0])) (.fn 17 (argsE [.var 0])) true, frows := [(1, .seq ⟨5, .u8, .fn 17 (argsE [.var 0]), .fn 7 (argsE [.var 0]), true, false⟩)], same := [] }
abbrev asPa16 : Q × Bool := ((.fit .i64 txPa60), true)
abbrev asPa17 : Q × Bool := ((.fit .i64 txPa77), true)
abbrev asPa18 : Q × Bool := ((.fit .i64 txPa78), true)
abbrev asPa19 : Q × Bool := ((.le (.int 0) txPa77), true)
abbrev asPa20 : Q × Bool := ((.le txPa77 txPa78), true)
abbrev asPa21 : Q × Bool := ((.le txPa78 (.int 281474976710656)), true)
abbrev asPa22 : Q × Bool := ((.le txPa78 (.int 9223372036854775807)), true)
abbrev asPa23 : Q × Bool := ((.le txPa77 (.int 0)), false)
abbrev asPa24 : Q × Bool := ((.le txPa78 (.int 0)), false)
abbrev asPa25 : Q × Bool := ((.le (.bi .mul (.bi .add zPa1 (.int 2)) (.int 2)) (.int 281474976710656)), true)
abbrev asPa26 : Q × Bool := ((.le (.bi .mul (.bi .add zPa1 (.int 3)) (.int 2)) (.int 281474976710656)), true)
abbrev asPa27 : Q × Bool := ((.le (.bi .mul (.bi .add zPa1 (.int 4)) (.int 2)) (.int 281474976710656)), true)
abbrev asPa28 : Q × Bool := ((.le (.bi .mul (.bi .add zPa1 (.int 5)) (.int 2)) (.int 281474976710656)), true)
abbrev asPa29 : Q × Bool := ((.le (.bi .mul (.bi .add zPa1 (.int 6)) (.int 2)) (.int 281474976710656)), true)
abbrev asPa30 : Q × Bool := ((.le (.bi .mul (.bi .add zPa1 (.int 7)) (.int 2)) (.int 281474976710656)), true)
abbrev asPa31 : Q × Bool := ((.le (.bi .mul (.bi .add zPa1 (.int 8)) (.int 2)) (.int 281474976710656)), true)
abbrev asPa32 : Q × Bool := ((.le (.bi .mul txPa78 (.int 2)) (.int 281474976710656)), true)
def fillC_t0 : List (Q × Bool) := [asPa16, asPa17, asPa18, asPa19, asPa20, asPa21, asPa22, asPa23, asPa24, asPa25, asPa26, asPa27, asPa28, asPa29, asPa30, asPa31, asPa32]
def fillC_d0 : List Duty := [zPa8, zPa8, zPa8, (false, (.bi .app (.bi .app (.bi .app (.bi .app (.bi .app (.bi .app (.bi .app (.bi .app (.tr .cut (.tr .upd (.bi .rep txPa78 (.int 0)) (.int 0) (.int 128)) (.int 0) txPa77) (.bi .app (.un .one (.un (.wrap .u8) (.bi (.iop .shr .u64) txPa11 (.int 56)))) (.lits []))) (.bi .app (.un .one (.un (.wrap .u8) (.bi (.iop .shr .u64) txPa11 (.int 48)))) (.lits []))) (.bi .app (.un .one (.un (.wrap .u8) (.bi (.iop .shr .u64) txPa11 (.int 40)))) (.lits []))) (.bi .app (.un .one (.un (.wrap .u8) (.bi (.iop .shr .u64) txPa11 (.int 32)))) (.lits []))) (.bi .app (.un .one (.un (.wrap .u8) (.bi (.iop .shr .u64) txPa11 (.int 24)))) (.lits []))) (.bi .app (.un .one (.un (.wrap .u8) (.bi (.iop .shr .u64) txPa11 (.int 16)))) (.lits []))) (.bi .app (.un .one (.un (.wrap .u8) (.bi (.iop .shr .u64) txPa11 (.int 8)))) (.lits []))) (.bi .app (.un .one (.un (.wrap .u8) (.bi (.iop .shr .u64) txPa11 (.int 0)))) (.lits []))), (.fn 7 zPa27))]
theorem fillC_y0 : endC fillC [(1, 33)] 1000 (callC Tryd.prog (tellA fillC_t0) [] [] [] 3000 40 43 fillC) = some fillC_d0 := by kernel_rfl
theorem fillC_holds : CHolds Tryd.prog 43 fillC F := by
 refine cholds_of sound (tableNil _ _) (specsNil _ _) (oversNil _ _) (fuel := 3000) (depth := 40) (by kernel_rfl) fun d hp hR hA => ?_
 have hp := allTold'_iff.2 hp
 simp only [fillC, tl] at hp hR hA
 have hm := emod_in (x := (d 0).toInt) (n := 64) (by omega)
 have hm2 := emod_in (x := 119 - (d 0).toInt % 64) (n := 64) (by omega)
 have hz : iopI .rem .i64 (d 0).toInt 64 = (d 0).toInt % 64 := rem_emod .i64 (by omega)
 have hz2 : iopI .rem .i64 (119 - (d 0).toInt % 64) 64 = (119 - (d 0).toInt % 64) % 64 := rem_emod .i64 (by omega)
 refine ⟨tellA fillC_t0, _, _, _, tellA_ok (allTold'_iff.1 ?_), fillC_y0, dutiesTold_ok ?_⟩
 ·simp only [fillC_t0, hz, hz2, tl]
  omega
 ·simp only [fillC_d0, F7, F17, hz, hz2, tl]
  have hw : IntKind.u64.wrap (d 0).toInt = (d 0).toInt := wrap_fit (by simp only [u64min, u64max]; omega)
  have hw2 : iopI .mul .u64 (d 0).toInt 8 = (d 0).toInt * 8 := by
   show IntKind.u64.wrap ((d 0).toInt * 8) = _
   exact wrap_fit (by simp only [u64min, u64max]; omega)
  rw [hw, hw2, show ((119 - (d 0).toInt % 64) % 64 + 1).toNat = ((119 - (d 0).toInt % 64) % 64).toNat + 1 by omega, show ((119 - (d 0).toInt % 64) % 64 + 9).toNat = ((119 - (d 0).toInt % 64) % 64).toNat + 9 by omega, show Int.toNat 0 = 0 from rfl, fill_front]
  refine ⟨trivial, trivial, trivial, ?_⟩
  simp [fillI, byteI, ints_list, D.ofInts]

def bytesC : CSpec := { args := [.agg [vu32Pa (.var 0) 0, vu32Pa (.var 0) 1, vu32Pa (.var 0) 2, vu32Pa (.var 0) 3, vu32Pa (.var 0) 4, vu32Pa (.var 0) 5, vu32Pa (.var 0) 6, vu32Pa (.var 0) 7]], next := 0, rows := [], pre := [], res := .agg [.sint .u8 (.bi .sel (.fn 8 (argsE [.var 0])) (.int 0)), .sint .u8 (.bi .sel (.fn 8 (argsE [.var 0])) (.int 1)), .sint .u8 (.bi .sel (.fn 8 (argsE [.var 0])) (.int 2)), .sint .u8 (.bi .sel (.fn 8 (argsE [.var 0])) (.int 3)), .sint .u8 (.bi .sel (.fn 8 (argsE [.var 0])) (.int 4)), .sint .u8 (.bi .sel (.fn 8 (argsE [.var 0])) (.int 5)), .sint .u8 (.bi .sel (.fn 8 (argsE [.var 0])) (.int 6)), .sint .u8 (.bi .sel (.fn 8 (argsE [.var 0])) (.int 7)), .sint .u8 (.bi .sel (.fn 8 (argsE [.var 0])) (.int 8)), .sint .u8 (.bi .sel (.fn 8 (argsE [.var 0])) (.int 9)), .sint .u8 (.bi .sel (.fn 8 (argsE [.var 0])) (.int 10)), .sint .u8 (.bi .sel (.fn 8 (argsE [.var 0])) (.int 11)), .sint .u8 (.bi .sel (.fn 8 (argsE [.var 0])) (.int 12)), .sint .u8 (.bi .sel (.fn 8 (argsE [.var 0])) (.int 13)), .sint .u8 (.bi .sel (.fn 8 (argsE [.var 0])) (.int 14)), .sint .u8 (.bi .sel (.fn 8 (argsE [.var 0])) (.int 15)), .sint .u8 (.bi .sel (.fn 8 (argsE [.var 0])) (.int 16)), .sint .u8 (.bi .sel (.fn 8 (argsE [.var 0])) (.int 17)), .sint .u8 (.bi .sel (.fn 8 (argsE [.var 0])) (.int 18)), .sint .u8 (.bi .sel (.fn 8 (argsE [.var 0])) (.int 19)), .sint .u8 (.bi .sel (.fn 8 (argsE [.var 0])) (.int 20)), .sint .u8 (.bi .sel (.fn 8 (argsE [.var 0])) (.int 21)), .sint .u8 (.bi .sel (.fn 8 (argsE [.var 0])) (.int 22)), .sint .u8 (.bi .sel (.fn 8 (argsE [.var 0])) (.int 23)), .sint .u8 (.bi .sel (.fn 8 (argsE [.var 0])) (.int 24)), .sint .u8 (.bi .sel (.fn 8 (argsE [.var 0])) (.int 25)), .sint .u8 (.bi .sel (.fn 8 (argsE [.var 0])) (.int 26)), .sint .u8 (.bi .sel (.fn 8 (argsE [.var 0])) (.int 27)), .sint .u8 (.bi .sel (.fn 8 (argsE [.var 0])) (.int 28)), .sint .u8 (.bi .sel (.fn 8 (argsE [.var 0])) (.int 29)), .sint .u8 (.bi .sel (.fn 8 (argsE [.var 0])) (.int 30)), .sint .u8 (.bi .sel (.fn 8 (argsE [.var 0])) (.int 31))], frows := [], same := [] }
def bytesC_t0 : List (Q × Bool) := []
def bytesC_d0 : List Duty := [(true, (.un (.wrap .u8) (.bi (.iop .shr .u32) zPa16 (.int 24))), (.bi .sel zPa0 (.int 0))), (true, (.un (.wrap .u8) (.bi (.iop .shr .u32) zPa16 (.int 16))), (.bi .sel zPa0 (.int 1))), (true, (.un (.wrap .u8) (.bi (.iop .shr .u32) zPa16 (.int 8))), (.bi .sel zPa0 (.int 2))), (true, (.un (.wrap .u8) (.bi (.iop .shr .u32) zPa16 (.int 0))), (.bi .sel zPa0 (.int 3))), (true, (.un (.wrap .u8) (.bi (.iop .shr .u32) zPa17 (.int 24))), (.bi .sel zPa0 (.int 4))), (true, (.un (.wrap .u8) (.bi (.iop .shr .u32) zPa17 (.int 16))), (.bi .sel zPa0 (.int 5))), (true, (.un (.wrap .u8) (.bi (.iop .shr .u32) zPa17 (.int 8))), (.bi .sel zPa0 (.int 6))), (true, (.un (.wrap .u8) (.bi (.iop .shr .u32) zPa17 (.int 0))), (.bi .sel zPa0 (.int 7))), (true, (.un (.wrap .u8) (.bi (.iop .shr .u32) zPa18 (.int 24))), (.bi .sel zPa0 (.int 8))), (true, (.un (.wrap .u8) (.bi (.iop .shr .u32) zPa18 (.int 16))), (.bi .sel zPa0 (.int 9))), (true, (.un (.wrap .u8) (.bi (.iop .shr .u32) zPa18 (.int 8))), (.bi .sel zPa0 (.int 10))), (true, (.un (.wrap .u8) (.bi (.iop .shr .u32) zPa18 (.int 0))), (.bi .sel zPa0 (.int 11))), (true, (.un (.wrap .u8) (.bi (.iop .shr .u32) zPa19 (.int 24))), (.bi .sel zPa0 (.int 12))), (true, (.un (.wrap .u8) (.bi (.iop .shr .u32) zPa19 (.int 16))), (.bi .sel zPa0 (.int 13))), (true, (.un (.wrap .u8) (.bi (.iop .shr .u32) zPa19 (.int 8))), (.bi .sel zPa0 (.int 14))), (true, (.un (.wrap .u8) (.bi (.iop .shr .u32) zPa19 (.int 0))), (.bi .sel zPa0 (.int 15))), (true, (.un (.wrap .u8) (.bi (.iop .shr .u32) zPa20 (.int 24))), (.bi .sel zPa0 (.int 16))), (true, (.un (.wrap .u8) (.bi (.iop .shr .u32) zPa20 (.int 16))), (.bi .sel zPa0 (.int 17))), (true, (.un (.wrap .u8) (.bi (.iop .shr .u32) zPa20 (.int 8))), (.bi .sel zPa0 (.int 18))), (true, (.un (.wrap .u8) (.bi (.iop .shr .u32) zPa20 (.int 0))), (.bi .sel zPa0 (.int 19))), (true, (.un (.wrap .u8) (.bi (.iop .shr .u32) zPa21 (.int 24))), (.bi .sel zPa0 (.int 20))), (true, (.un (.wrap .u8) (.bi (.iop .shr .u32) zPa21 (.int 16))), (.bi .sel zPa0 (.int 21))), (true, (.un (.wrap .u8) (.bi (.iop .shr .u32) zPa21 (.int 8))), (.bi .sel zPa0 (.int 22))), (true, (.un (.wrap .u8) (.bi (.iop .shr .u32) zPa21 (.int 0))), (.bi .sel zPa0 (.int 23))), (true, (.un (.wrap .u8) (.bi (.iop .shr .u32) zPa22 (.int 24))), (.bi .sel zPa0 (.int 24))), (true, (.un (.wrap .u8) (.bi (.iop .shr .u32) zPa22 (.int 16))), (.bi .sel zPa0 (.int 25))), (true, (.un (.wrap .u8) (.bi (.iop .shr .u32) zPa22 (.int 8))), (.bi .sel zPa0 (.int 26))), (true, (.un (.wrap .u8) (.bi (.iop .shr .u32) zPa22 (.int 0))), (.bi .sel zPa0 (.int 27))), (true, (.un (.wrap .u8) (.bi (.iop .shr .u32) zPa23 (.int 24))), (.bi .sel zPa0 (.int 28))), (true, (.un (.wrap .u8) (.bi (.iop .shr .u32) zPa23 (.int 16))), (.bi .sel zPa0 (.int 29))), (true, (.un (.wrap .u8) (.bi (.iop .shr .u32) zPa23 (.int 8))), (.bi .sel zPa0 (.int 30))), (true, (.un (.wrap .u8) (.bi (.iop .shr .u32) zPa23 (.int 0))), (.bi .sel zPa0 (.int 31)))]
theorem bytesC_y0 : endC bytesC [] 1000 (callC Tryd.prog (tellA bytesC_t0) [] [] [] 3000 40 44 bytesC) = some bytesC_d0 := by kernel_rfl
theorem bytesC_holds : CHolds Tryd.prog 44 bytesC F := by
 refine cholds_of sound (tableNil _ _) (specsNil _ _) (oversNil _ _) (fuel := 3000) (depth := 40) (by kernel_rfl) fun d hp hR hA => ?_
 have hp := allTold'_iff.2 hp
 simp only [bytesC, tl] at hp hR hA
 refine ⟨tellA bytesC_t0, _, _, _, tellA_ok (allTold'_iff.1 ?_), bytesC_y0, dutiesTold_ok ?_⟩
 ·simp only [bytesC_t0, tl]
 ·simp only [bytesC_d0, F8, tl]
  and_intros <;> rfl

def tableC : CSpec := { args := [], next := 0, rows := [], pre := [], res := .agg crcAV, frows := [], same := [] }
def tableC_t0 : List (Q × Bool) := []
def tableC_d0 : List Duty := []
theorem tableC_y0 : endC tableC [] 1000 (callC Tryd.prog (tellA tableC_t0) [] [] [] 3000 40 45 tableC) = some tableC_d0 := by kernel_rfl
theorem tableC_holds : CHolds Tryd.prog 45 tableC F := by
 refine cholds_of sound (tableNil _ _) (specsNil _ _) (oversNil _ _) (fuel := 3000) (depth := 40) (by kernel_rfl) fun d hp hR hA => ?_
 refine ⟨tellA tableC_t0, _, _, _, tellA_ok (allTold'_iff.1 ?_), tableC_y0, dutiesTold_ok ?_⟩
 ·trivial
 ·trivial

def moreL : LSpec := { n := 30, next := 2, pat := [(14, .sint .i64 (.var 0)), (6, .sint .u32 (.var 1)), (12, .sslice 3 (.var 4) (.var 5) (.var 6) false), (13, .sint .i64 (.var 5)), (5, .ptr 1 0)], rows := [zPa29, (3, .eseq ⟨.u8, .var 3, .var 2⟩)], pre := [(.le (.int 0) (.var 0), true), (.le (.var 0) (.var 5), true), (.le zPa28 (.var 3), true)], x := 0, fin := [(6, .sint .u32 txPa62)], frows := [], same := [], chg := [5, 6, 8, 12, 13, 14, 15, 16, 17, 18, 19, 20, 21, 22, 23, 24, 25, 26, 27] }
abbrev asPa33 : Q × Bool := ((.le (.var 5) (.var 0)), false)
abbrev asPa34 : Q × Bool := ((.le (.int 0) zPa24), true)
abbrev asPa35 : Q × Bool := ((.le (.var 3) zPa24), false)
abbrev asPa36 : Q × Bool := ((.le (.int 0) txPa68), true)
abbrev asPa37 : Q × Bool := ((.le (.int 256) txPa68), false)
def moreL_t0 : List (Q × Bool) := [asPa33, asPa13, asPa34, asPa35, asPa36, asPa37, asPa14]
def moreL_d0 : List Duty := [(true, (.fn 41 txPa130), (.fn 41 txPa79))]
def moreL_h0 : List (Nat × E) := [(3, (.var 3)), (2, (.var 2)), (4, (.var 4)), (5, (.var 5)), (6, (.var 6)), (1, txPa90), (0, zPa2)]
theorem moreL_h0_a : lookE moreL_h0 0 = zPa2 ∧ lookE moreL_h0 1 = txPa90 ∧ lookE moreL_h0 2 = (.var 2) ∧ lookE moreL_h0 3 = (.var 3) ∧ lookE moreL_h0 4 = (.var 4) ∧ lookE moreL_h0 5 = (.var 5) ∧ lookE moreL_h0 6 = (.var 6) := ⟨rfl, rfl, rfl, rfl, rfl, rfl, rfl⟩
theorem moreL_y0 : nextD moreL moreL_h0 [(1, 1), (3, 3)] (roundC Tryd.prog [] [] [] 3000 40 41 [4, 1, 0, 1, 1, 1] (tellA moreL_t0) moreL) = some moreL_d0 := by kernel_rfl
abbrev asPa38 : Q × Bool := ((.le (.var 5) (.var 0)), true)
def moreL_t1 : List (Q × Bool) := [asPa38]
def moreL_d1 : List Duty := [(true, (.var 1), (.fn 41 txPa79))]
theorem moreL_y1 : endD moreL [(1, 1), (3, 3)] 1000 (roundC Tryd.prog [] [] [] 3000 40 41 [4, 1, 0, 1, 1, 1] (tellA moreL_t1) moreL) = some moreL_d1 := by kernel_rfl
theorem moreL_holds : LHolds Tryd.prog (loopAt Tryd.prog 41 [4, 1, 0, 1, 1, 1]) moreL F := by
 refine loop_roundsC sound (tableNil _ _) (specsNil _ _) (oversNil _ _) (fuel := 3000) (depth := 40) (by kernel_rfl) (by kernel_rfl) (by kernel_rfl) (fun d => ((d 5).toInt - (d 0).toInt).toNat) fun d hp hR hA => ?_
 have hp := allTold'_iff.2 hp
 simp only [moreL, tl] at hp hR hA
 by_cases h : (d 5).toInt ≤ (d 0).toInt
 ·refine ⟨tellA moreL_t1, tellA_ok (allTold'_iff.1 ?_), .inl ⟨_, _, _, moreL_y1, dutiesTold_ok ?_⟩⟩
  ·simp only [moreL_t1, tl]
   omega
  ·simp only [moreL_d1, F41, tl]
   rw [prt_nil (by omega) (by omega)]
   rfl
 ·refine ⟨tellA moreL_t0, tellA_ok (allTold'_iff.1 ?_), .inr ⟨moreL_h0, _, _, moreL_y0, dutiesTold_ok ?_, allTold'_iff.1 ?_, ?_⟩⟩
  ·simp only [moreL_t0, tl]
   have := xor_in .u8 (IntKind.u8.wrap (d 1).toInt) (((d 2).ints[((d 4).toInt + (d 0).toInt).toNat]?).getD 0)
   simp only [u8min, u8max] at this
   omega
  ·simp only [moreL_d0, F41, tl]
   rw [prt_step (x := (d 2).ints) (o := (d 4).toInt + (d 0).toInt) (by omega) (by omega) (by omega), Int.add_assoc]
   rfl
  ·simp only [moreL, moreL_h0_a, tl]
   omega
  ·simp only [moreL_h0_a, tl]
   omega

def moreLO : LSpec := { n := 30, next := 2, pat := [(14, .sint .i64 (.var 0)), (6, .sint .u32 (.var 1)), (12, .sslice 3 (.var 4) (.var 5) (.var 6) true), (13, .sint .i64 (.var 5)), (5, .ptr 1 0)], rows := [zPa29, (3, .eseq ⟨.u8, .var 3, .var 2⟩)], pre := [(.le (.int 0) (.var 0), true), (.le (.var 0) (.var 5), true), (.le zPa28 (.var 3), true)], x := 0, fin := [(6, .sint .u32 txPa62)], frows := [], same := [], chg := [5, 6, 8, 12, 13, 14, 15, 16, 17, 18, 19, 20, 21, 22, 23, 24, 25, 26, 27] }
def moreLO_t0 : List (Q × Bool) := [asPa33, asPa13, asPa34, asPa35, asPa36, asPa37, asPa14]
def moreLO_d0 : List Duty := [(true, (.fn 41 txPa130), (.fn 41 txPa79))]
def moreLO_h0 : List (Nat × E) := [(3, (.var 3)), (2, (.var 2)), (4, (.var 4)), (5, (.var 5)), (6, (.var 6)), (1, txPa90), (0, zPa2)]
theorem moreLO_h0_a : lookE moreLO_h0 0 = zPa2 ∧ lookE moreLO_h0 1 = txPa90 ∧ lookE moreLO_h0 2 = (.var 2) ∧ lookE moreLO_h0 3 = (.var 3) ∧ lookE moreLO_h0 4 = (.var 4) ∧ lookE moreLO_h0 5 = (.var 5) ∧ lookE moreLO_h0 6 = (.var 6) := ⟨rfl, rfl, rfl, rfl, rfl, rfl, rfl⟩
theorem moreLO_y0 : nextD moreLO moreLO_h0 [(1, 1), (3, 3)] (roundC Tryd.prog [] [] [] 3000 40 41 [4, 1, 0, 1, 1, 1] (tellA moreLO_t0) moreLO) = some moreLO_d0 := by kernel_rfl
def moreLO_t1 : List (Q × Bool) := [asPa38]
def moreLO_d1 : List Duty := [(true, (.var 1), (.fn 41 txPa79))]
theorem moreLO_y1 : endD moreLO [(1, 1), (3, 3)] 1000 (roundC Tryd.prog [] [] [] 3000 40 41 [4, 1, 0, 1, 1, 1] (tellA moreLO_t1) moreLO) = some moreLO_d1 := by kernel_rfl
theorem moreLO_holds : LHolds Tryd.prog (loopAt Tryd.prog 41 [4, 1, 0, 1, 1, 1]) moreLO F := by
 refine loop_roundsC sound (tableNil _ _) (specsNil _ _) (oversNil _ _) (fuel := 3000) (depth := 40) (by kernel_rfl) (by kernel_rfl) (by kernel_rfl) (fun d => ((d 5).toInt - (d 0).toInt).toNat) fun d hp hR hA => ?_
 have hp := allTold'_iff.2 hp
 simp only [moreLO, tl] at hp hR hA
 by_cases h : (d 5).toInt ≤ (d 0).toInt
 ·refine ⟨tellA moreLO_t1, tellA_ok (allTold'_iff.1 ?_), .inl ⟨_, _, _, moreLO_y1, dutiesTold_ok ?_⟩⟩
  ·simp only [moreLO_t1, tl]
   omega
  ·simp only [moreLO_d1, F41, tl]
   rw [prt_nil (by omega) (by omega)]
   rfl
 ·refine ⟨tellA moreLO_t0, tellA_ok (allTold'_iff.1 ?_), .inr ⟨moreLO_h0, _, _, moreLO_y0, dutiesTold_ok ?_, allTold'_iff.1 ?_, ?_⟩⟩
  ·simp only [moreLO_t0, tl]
   have := xor_in .u8 (IntKind.u8.wrap (d 1).toInt) (((d 2).ints[((d 4).toInt + (d 0).toInt).toNat]?).getD 0)
   simp only [u8min, u8max] at this
   omega
  ·simp only [moreLO_d0, F41, tl]
   rw [prt_step (x := (d 2).ints) (o := (d 4).toInt + (d 0).toInt) (by omega) (by omega) (by omega), Int.add_assoc]
   rfl
  ·simp only [moreLO, moreLO_h0_a, tl]
   omega
  ·simp only [moreLO_h0_a, tl]
   omega

def moreC : CSpec := { args := [.sint .u32 (.var 0), .sslice 3 (.var 1) (.var 2) (.var 3) false], next := 2, rows := [zPa14], pre := [(.le zPa6 (.var 4), true), (.le (.var 2) (.int 1000000), true)], res := .sint .u32 zPa25, frows := [], same := [] }
abbrev asPa39 : Q × Bool := ((.fit .i64 (.var 2)), true)
abbrev asPa40 : Q × Bool := ((.le (.int 0) (.var 2)), true)
abbrev asPa41 : Q × Bool := ((.le zPa6 (.var 4)), true)
def moreC_t0 : List (Q × Bool) := [asPa39, asPa40, asPa41]
def moreC_d0 : List Duty := [zPa30]
theorem moreC_y0 : endC moreC [] 1000 (callC Tryd.prog (tellA moreC_t0) [⟨41, [4, 1, 0, 1, 1, 1], moreL⟩] [(45, tableC)] [] 3000 40 41 moreC) = some moreC_d0 := by kernel_rfl
theorem moreC_holds : CHolds Tryd.prog 41 moreC F := by
 refine cholds_of sound (tableCons moreL_holds (tableNil _ _)) (specsCons tableC_holds (specsNil _ _)) (oversNil _ _) (fuel := 3000) (depth := 40) (by kernel_rfl) fun d hp hR hA => ?_
 have hp := allTold'_iff.2 hp
 simp only [moreC, tl] at hp hR hA
 refine ⟨tellA moreC_t0, _, _, _, tellA_ok (allTold'_iff.1 ?_), moreC_y0, dutiesTold_ok ?_⟩
 ·simp only [moreC_t0, tl]
  omega
 ·simp only [moreC_d0, F41, F42, Int.add_zero, tl]
  rfl

def moreCO : CSpec := { args := [.sint .u32 (.var 0), .sslice 3 (.var 1) (.var 2) (.var 3) true], next := 2, rows := [zPa14], pre := [(.le zPa6 (.var 4), true), (.le (.var 2) (.int 1000000), true)], res := .sint .u32 zPa25, frows := [], same := [] }
def moreCO_t0 : List (Q × Bool) := [asPa39, asPa40, asPa41]
def moreCO_d0 : List Duty := [zPa30]
theorem moreCO_y0 : endC moreCO [] 1000 (callC Tryd.prog (tellA moreCO_t0) [⟨41, [4, 1, 0, 1, 1, 1], moreLO⟩] [(45, tableC)] [] 3000 40 41 moreCO) = some moreCO_d0 := by kernel_rfl
theorem moreCO_holds : CHolds Tryd.prog 41 moreCO F := by
 refine cholds_of sound (tableCons moreLO_holds (tableNil _ _)) (specsCons tableC_holds (specsNil _ _)) (oversNil _ _) (fuel := 3000) (depth := 40) (by kernel_rfl) fun d hp hR hA => ?_
 have hp := allTold'_iff.2 hp
 simp only [moreCO, tl] at hp hR hA
 refine ⟨tellA moreCO_t0, _, _, _, tellA_ok (allTold'_iff.1 ?_), moreCO_y0, dutiesTold_ok ?_⟩
 ·simp only [moreCO_t0, tl]
  omega
 ·simp only [moreCO_d0, F41, F42, Int.add_zero, tl]
  rfl

def putC : CSpec := { args := [.sslice 3 (.var 1) (.var 2) (.var 3) false], next := 2, rows := [zPa14], pre := [(.le zPa6 (.var 4), true), (.le (.var 2) (.int 1000000), true)], res := .sslice 5 (.int 0) zPa4 zPa4 true, frows := [zPa7], same := [] }
abbrev asPa42 : Q × Bool := ((.le (.var 2) (.int 1000000)), true)
abbrev asPa43 : Q × Bool := ((.fit .i64 zPa4), true)
abbrev asPa44 : Q × Bool := ((.le (.int 0) zPa4), true)
abbrev asPa45 : Q × Bool := ((.le zPa4 (.int 0)), false)
abbrev asPa46 : Q × Bool := ((.le (.bi .mul zPa4 (.int 2)) (.int 281474976710656)), true)
abbrev asPa47 : Q × Bool := ((.le (.bi .mul (.var 2) (.int 2)) (.int 281474976710656)), true)
def putC_t0 : List (Q × Bool) := [asPa41, asPa42, asPa39, asPa40, asPa43, asPa44, asPa45, asPa46, asPa47]
def putC_d0 : List Duty := [(false, txPa141, (.fn 48 txPa65))]
theorem putC_y0 : endC putC [(5, 15)] 1000 (callC Tryd.prog (tellA putC_t0) [⟨41, [4, 1, 0, 1, 1, 1], moreL⟩] [(45, tableC), (41, moreC)] [] 3000 40 25 putC) = some putC_d0 := by kernel_rfl
theorem putC_holds : CHolds Tryd.prog 25 putC F := by
 refine cholds_of sound (tableCons moreL_holds (tableNil _ _)) (specsCons tableC_holds (specsCons moreC_holds (specsNil _ _))) (oversNil _ _) (fuel := 3000) (depth := 40) (by kernel_rfl) fun d hp hR hA => ?_
 have hp := allTold'_iff.2 hp
 simp only [putC, tl] at hp hR hA
 refine ⟨tellA putC_t0, _, _, _, tellA_ok (allTold'_iff.1 ?_), putC_y0, dutiesTold_ok ?_⟩
 ·simp only [putC_t0, tl]
  omega
 ·simp only [putC_d0, F48, F42, ints_list, List.map_append, List.map_drop, List.map_take, List.map_replicate, List.map_cons, List.map_nil, map_ints, tl]
  simp [putI, le4, gsumI, prt]

def putCO : CSpec := { args := [.sslice 3 (.var 1) (.var 2) (.var 3) true], next := 2, rows := [zPa14], pre := [(.le zPa6 (.var 4), true), (.le (.var 2) (.int 1000000), true)], res := .sslice 5 (.int 0) zPa4 zPa4 true, frows := [zPa7], same := [] }
def putCO_t0 : List (Q × Bool) := [asPa41, asPa42, asPa39, asPa40, asPa43, asPa44, asPa45, asPa46, asPa47]
def putCO_d0 : List Duty := [(false, txPa141, (.fn 48 txPa65))]
theorem putCO_y0 : endC putCO [(5, 15)] 1000 (callC Tryd.prog (tellA putCO_t0) [⟨41, [4, 1, 0, 1, 1, 1], moreLO⟩] [(45, tableC), (41, moreCO)] [] 3000 40 25 putCO) = some putCO_d0 := by kernel_rfl
theorem putCO_holds : CHolds Tryd.prog 25 putCO F := by
 refine cholds_of sound (tableCons moreLO_holds (tableNil _ _)) (specsCons tableC_holds (specsCons moreCO_holds (specsNil _ _))) (oversNil _ _) (fuel := 3000) (depth := 40) (by kernel_rfl) fun d hp hR hA => ?_
 have hp := allTold'_iff.2 hp
 simp only [putCO, tl] at hp hR hA
 refine ⟨tellA putCO_t0, _, _, _, tellA_ok (allTold'_iff.1 ?_), putCO_y0, dutiesTold_ok ?_⟩
 ·simp only [putCO_t0, tl]
  omega
 ·simp only [putCO_d0, F48, F42, ints_list, List.map_append, List.map_drop, List.map_take, List.map_replicate, List.map_cons, List.map_nil, map_ints, tl]
  simp [putI, le4, gsumI, prt]

end Go.Proofs.YtidpndnehbhloaaDoor.Pa

set_option linter.unusedSimpArgs false
set_option linter.unusedVariables false
namespace Go.Proofs.YtidpndnehbhloaaDoor.Ys
open Go.RowKit Go.Ev Go.Proofs.YtidpndnehbhloaaDoor.Co

open Go.Proofs.YtidpndnehbhloaaDoor.P0
open Go.Proofs.YtidpndnehbhloaaDoor.Pa

abbrev zYs3 : E := (.bi .sel (.var 10) (.var 0))
abbrev txYs0 : E := (.bi .sel zYs3 (.int 0))
abbrev zYs4 : E := (.bi .sel (.var 13) (.var 0))
abbrev txYs1 : E := (.bi .sel zYs4 (.int 0))
abbrev txYs2 : E := (.un .code (.tr .cut (.var 13) (.int 0) (.var 9)))
abbrev zYs0 : Nat × RW := (3, .vseq ⟨36, .agg [.agg [.int .u8, .int .u8, .int .u8, .int .u8, .int .u8, .int .u8, .int .u8, .int .u8, .int .u8, .int .u8, .int .u8, .int .u8, .int .u8, .int .u8, .int .u8, .int .u8], .int .i64, .int .i64], .var 12, .var 13, true⟩)
abbrev zYs1 : Nat × RW := (1, .vseq ⟨36, .agg [.agg [.int .u8, .int .u8, .int .u8, .int .u8, .int .u8, .int .u8, .int .u8, .int .u8, .int .u8, .int .u8, .int .u8, .int .u8, .int .u8, .int .u8, .int .u8, .int .u8], .int .i64, .int .i64], .var 9, .var 10, true⟩)
abbrev zYs2 : E := (.un .code (.bi .app (.var 10) (.lits [])))
abbrev zYs5 : E := (.bi .add (.var 0) (.int 1))
def sameHL : LSpec := { n := 26, next := 14, pat := [(0, .vslice 1 18 (.int 0) (.var 9) (.var 9) true), (1, .vslice 3 18 (.int 0) (.var 9) (.var 12) true), (5, .sint .i64 (.var 0))], rows := [zYs1, zYs0], pre := [(.le (.int 0) (.var 0), true), (.le (.var 0) (.var 9), true), (.le (.int 1) (.var 9), true), (.le (.var 9) (.var 12), true), (.le (.var 12) (.int 100000), true), (.same txYs2 zYs2, true)], x := 0, fin := [], frows := [], same := [1, 3], chg := [0, 1, 5, 11, 12, 13, 14, 15, 16, 17, 18, 19, 20, 21, 22, 23, 24, 25] }
abbrev asYs0 : Q × Bool := ((.fit .i64 (.var 9)), true)
abbrev asYs1 : Q × Bool := ((.le (.var 9) (.var 0)), false)
abbrev asYs2 : Q × Bool := ((.le (.int 0) (.var 0)), true)
abbrev asYs3 : Q × Bool := ((.le (.var 12) (.var 0)), false)
abbrev asYs4 : Q × Bool := ((.eq (.bi .sel txYs0 (.int 0)) (.bi .sel txYs1 (.int 0))), true)
abbrev asYs5 : Q × Bool := ((.eq (.bi .sel txYs0 (.int 1)) (.bi .sel txYs1 (.int 1))), true)
abbrev asYs6 : Q × Bool := ((.eq (.bi .sel txYs0 (.int 2)) (.bi .sel txYs1 (.int 2))), true)
abbrev asYs7 : Q × Bool := ((.eq (.bi .sel txYs0 (.int 3)) (.bi .sel txYs1 (.int 3))), true)
abbrev asYs8 : Q × Bool := ((.eq (.bi .sel txYs0 (.int 4)) (.bi .sel txYs1 (.int 4))), true)
abbrev asYs9 : Q × Bool := ((.eq (.bi .sel txYs0 (.int 5)) (.bi .sel txYs1 (.int 5))), true)
abbrev asYs10 : Q × Bool := ((.eq (.bi .sel txYs0 (.int 6)) (.bi .sel txYs1 (.int 6))), true)
abbrev asYs11 : Q × Bool := ((.eq (.bi .sel txYs0 (.int 7)) (.bi .sel txYs1 (.int 7))), true)
abbrev asYs12 : Q × Bool := ((.eq (.bi .sel txYs0 (.int 8)) (.bi .sel txYs1 (.int 8))), true)
abbrev asYs13 : Q × Bool := ((.eq (.bi .sel txYs0 (.int 9)) (.bi .sel txYs1 (.int 9))), true)
abbrev asYs14 : Q × Bool := ((.eq (.bi .sel txYs0 (.int 10)) (.bi .sel txYs1 (.int 10))), true)
abbrev asYs15 : Q × Bool := ((.eq (.bi .sel txYs0 (.int 11)) (.bi .sel txYs1 (.int 11))), true)
abbrev asYs16 : Q × Bool := ((.eq (.bi .sel txYs0 (.int 12)) (.bi .sel txYs1 (.int 12))), true)
abbrev asYs17 : Q × Bool := ((.eq (.bi .sel txYs0 (.int 13)) (.bi .sel txYs1 (.int 13))), true)
abbrev asYs18 : Q × Bool := ((.eq (.bi .sel txYs0 (.int 14)) (.bi .sel txYs1 (.int 14))), true)
abbrev asYs19 : Q × Bool := ((.eq (.bi .sel txYs0 (.int 15)) (.bi .sel txYs1 (.int 15))), true)
abbrev asYs20 : Q × Bool := ((.eq (.bi .sel zYs3 (.int 1)) (.bi .sel zYs4 (.int 1))), true)
abbrev asYs21 : Q × Bool := ((.eq (.bi .sel zYs3 (.int 2)) (.bi .sel zYs4 (.int 2))), true)
abbrev asYs22 : Q × Bool := ((.fit .i64 zYs5), true)
def sameHL_t0 : List (Q × Bool) := [asYs0, asYs1, asYs2, asYs3, asYs4, asYs5, asYs6, asYs7, asYs8, asYs9, asYs10, asYs11, asYs12, asYs13, asYs14, asYs15, asYs16, asYs17, asYs18, asYs19, asYs20, asYs21, asYs22]
def sameHL_d0 : List Duty := []
def sameHL_h0 : List (Nat × E) := [(13, (.var 13)), (10, (.var 10)), (0, zYs5), (12, (.var 12)), (9, (.var 9))]
theorem sameHL_h0_a : lookE sameHL_h0 0 = zYs5 ∧ lookE sameHL_h0 9 = (.var 9) ∧ lookE sameHL_h0 10 = (.var 10) ∧ lookE sameHL_h0 12 = (.var 12) ∧ lookE sameHL_h0 13 = (.var 13) := ⟨rfl, rfl, rfl, rfl, rfl⟩
theorem sameHL_y0 : nextD sameHL sameHL_h0 [(3, 3), (1, 1)] (roundC Tryd.prog [] [] [] 3000 40 20 [4, 1, 0, 1, 1] (tellA sameHL_t0) sameHL) = some sameHL_d0 := by kernel_rfl
abbrev asYs23 : Q × Bool := ((.le (.var 9) (.var 0)), true)
def sameHL_t1 : List (Q × Bool) := [asYs0, asYs23]
def sameHL_d1 : List Duty := []
theorem sameHL_y1 : endD sameHL [(3, 3), (1, 1)] 1000 (roundC Tryd.prog [] [] [] 3000 40 20 [4, 1, 0, 1, 1] (tellA sameHL_t1) sameHL) = some sameHL_d1 := by kernel_rfl
theorem sameHL_holds : LHolds Tryd.prog (loopAt Tryd.prog 20 [4, 1, 0, 1, 1]) sameHL F := by
 refine loop_roundsC sound (tableNil _ _) (specsNil _ _) (oversNil _ _) (fuel := 3000) (depth := 40) (by kernel_rfl) (by kernel_rfl) (by kernel_rfl) (fun d => ((d 9).toInt - (d 0).toInt).toNat) fun d hp hR hA => ?_
 have hp := allTold'_iff.2 hp
 simp only [sameHL, tl] at hp hR hA
 have hq := D.code_eq hp.2.2.2.2.2
 simp only [D.list.injEq, show (D.ofInts []).toList = [] from rfl, List.append_nil, show Int.toNat 0 = 0 from rfl, List.drop_zero] at hq
 by_cases h : (d 9).toInt ≤ (d 0).toInt
 ·refine ⟨tellA sameHL_t1, tellA_ok (allTold'_iff.1 ?_), .inl ⟨_, _, _, sameHL_y1, dutiesTold_ok ?_⟩⟩
  ·simp only [sameHL_t1, tl]
   omega
  ·simp only [sameHL_d1, tl]
 ·have he : (d 13).toList[(d 0).toInt.toNat]?.getD (D.int 0) = (d 10).toList[(d 0).toInt.toNat]?.getD (D.int 0) := by
   rw [← hq, List.getElem?_take, if_pos (by omega)]
  refine ⟨tellA sameHL_t0, tellA_ok (allTold'_iff.1 ?_), .inr ⟨sameHL_h0, _, _, sameHL_y0, dutiesTold_ok ?_, allTold'_iff.1 ?_, ?_⟩⟩
  ·simp only [sameHL_t0, he, tl]
   first | omega | (simp only [and_true, true_and]; omega)
  ·simp only [sameHL_d0, tl]
  ·simp only [sameHL, sameHL_h0_a, tl]
   refine ⟨by omega, by omega, by omega, by omega, by omega, hp.2.2.2.2.2⟩
  ·simp only [sameHL_h0_a, tl]
   omega

def sameH : CSpec := { args := [.vslice 1 18 (.int 0) (.var 9) (.var 9) true, .vslice 3 18 (.int 0) (.var 9) (.var 12) true], next := 14, rows := [zYs1, zYs0], pre := [(.le (.int 1) (.var 9), true), (.le (.var 9) (.var 12), true), (.le (.var 12) (.int 100000), true), (.same txYs2 zYs2, true)], res := .bool true, frows := [], same := [1, 3] }
abbrev asYs24 : Q × Bool := ((.le (.int 0) (.var 9)), true)
abbrev asYs25 : Q × Bool := ((.le (.int 1) (.var 9)), true)
abbrev asYs26 : Q × Bool := ((.le (.var 9) (.var 12)), true)
abbrev asYs27 : Q × Bool := ((.le (.var 12) (.int 100000)), true)
abbrev asYs28 : Q × Bool := ((.same txYs2 zYs2), true)
def sameH_t0 : List (Q × Bool) := [asYs0, asYs24, asYs25, asYs26, asYs27, asYs28]
def sameH_d0 : List Duty := []
theorem sameH_y0 : endC sameH [(1, 1), (3, 3)] 1000 (callC Tryd.prog (tellA sameH_t0) [⟨20, [4, 1, 0, 1, 1], sameHL⟩] [] [] 3000 40 20 sameH) = some sameH_d0 := by kernel_rfl
theorem sameH_holds : CHolds Tryd.prog 20 sameH F := by
 refine cholds_of sound (tableCons sameHL_holds (tableNil _ _)) (specsNil _ _) (oversNil _ _) (fuel := 3000) (depth := 40) (by kernel_rfl) fun d hp hR hA => ?_
 have hp := allTold'_iff.2 hp
 simp only [sameH, tl] at hp hR hA
 refine ⟨tellA sameH_t0, _, _, _, tellA_ok (allTold'_iff.1 ?_), sameH_y0, dutiesTold_ok ?_⟩
 ·simp only [sameH_t0, tl]
  refine ⟨by omega, by omega, by omega, by omega, by omega, by first | exact hp.2.2.2 | (refine ⟨?_, hp.2.2.2⟩; omega)⟩
 ·simp only [sameH_d0, tl]

end Go.Proofs.YtidpndnehbhloaaDoor.Ys

set_option linter.unusedSimpArgs false
set_option linter.unusedVariables false
namespace Go.Proofs.YtidpndnehbhloaaDoor.Yp
open Go.RowKit Go.Ev Go.Proofs.YtidpndnehbhloaaDoor.Co

open Go.Proofs.YtidpndnehbhloaaDoor.P0
open Go.Proofs.YtidpndnehbhloaaDoor.Pa

abbrev zYp0 : E := (.bi (.iop .rem .i64) (.var 0) (.var 1))
abbrev zYp1 : E := (.fn 47 (.bi .pair (.var 0) (.bi .pair (.var 1) (.int 0))))
def pickC : CSpec := { args := [.sint .i64 (.var 0), .sint .i64 (.var 1)], next := 0, rows := [], pre := [(.le (.int 1) (.var 1), true)], res := .sint .i64 (.fn 47 (argsE [.var 0, .var 1])), frows := [], same := [] }
abbrev asYp0 : Q × Bool := ((.le (.int 1) (.var 1)), true)
abbrev asYp1 : Q × Bool := ((.eq (.var 1) (.int 0)), false)
abbrev asYp2 : Q × Bool := ((.le (.int 0) zYp0), true)
def pickC_t0 : List (Q × Bool) := [asYp0, asYp1, asYp2]
def pickC_d0 : List Duty := [(true, zYp0, zYp1)]
theorem pickC_y0 : endC pickC [] 1000 (callC Tryd.prog (tellA pickC_t0) [] [] [] 3000 40 12 pickC) = some pickC_d0 := by kernel_rfl
abbrev asYp3 : Q × Bool := ((.le (.int 0) zYp0), false)
abbrev asYp4 : Q × Bool := ((.fit .i64 (.bi .add zYp0 (.var 1))), true)
def pickC_t1 : List (Q × Bool) := [asYp0, asYp1, asYp3, asYp4]
def pickC_d1 : List Duty := [(true, (.bi .add zYp0 (.var 1)), zYp1)]
theorem pickC_y1 : endC pickC [] 1000 (callC Tryd.prog (tellA pickC_t1) [] [] [] 3000 40 12 pickC) = some pickC_d1 := by kernel_rfl
theorem pickC_holds : CHolds Tryd.prog 12 pickC F := by
 refine cholds_of sound (tableNil _ _) (specsNil _ _) (oversNil _ _) (fuel := 3000) (depth := 40) (by kernel_rfl) fun d hp hR hA => ?_
 have hp := allTold'_iff.2 hp
 simp only [pickC, tl] at hp hR hA
 have e1 := emod_in (x := (d 0).toInt) hp
 have e2 := tmod_or .i64 (x := (d 0).toInt) hp
 by_cases h : 0 ≤ iopI .rem .i64 (d 0).toInt (d 1).toInt
 ·refine ⟨tellA pickC_t0, _, _, _, tellA_ok (allTold'_iff.1 ?_), pickC_y0, dutiesTold_ok ?_⟩
  ·simp only [pickC_t0, tl]
   omega
  ·simp only [pickC_d0, F47, tl]
   omega
 ·refine ⟨tellA pickC_t1, _, _, _, tellA_ok (allTold'_iff.1 ?_), pickC_y1, dutiesTold_ok ?_⟩
  ·simp only [pickC_t1, tl]
   omega
  ·simp only [pickC_d1, F47, tl]
   omega

end Go.Proofs.YtidpndnehbhloaaDoor.Yp
